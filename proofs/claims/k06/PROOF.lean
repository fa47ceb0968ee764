import PyProof.Rows.All
import Wide.All
import OpenK.AllK
import Wide.FinOn
import HandS.Head0
import HandS.Head1
import HandS.Head2
import HandS.Head3
import HandS.HeadEnd
import HandS.EndTab
import HandS.HeadWalk
import HandS.HeadHook4
import HandS.Words
import HandS.Base
import HandS.Call
import HandS.List
import HandS.Comp
import HandS.Ends
import HandS.Exc
import KE.KNest
import HandS.Lambda
import HandS.TupAny
import HandS.Wide
import HandS.Gcd
import HandS.IsInst
import HandS.WordsExc
import HandS.TupMul
import HandS.WideBits
import HandS.Flow
import HandS.GenList
import HandS.AnyAll
import PyProof.TupleOfGen
import PyProof.ConsumeS
import HandS.Style
import HandS.Iter
import HandS.Zip
import KE.GoesEnum
import KE.GoesNew
import KE.GoesMore
import HandS.Defaults
import HandS.RevTup
import KE.KRevSl
import PyProof.ReprRoads
import PyProof.CallFns
import HandS.Conv
import KE.KMathG
import HandS.Star
import HandS.Rev
import HandS.RevRange
import KE.KTupSum
import PySem.Challenge.RW_cornerranks_k06_whole_minors_of_the_inve
set_option Elab.async false
set_option linter.all false
set_option maxRecDepth 100000
set_option maxHeartbeats 0
/-! What is seen of the head's end: facts, tuples of whole numbers, that no one watches the import system. -/
namespace Mir
open PySem PySem.Spec PyProof.Rows L2
/-- no list stands among the head's objects -/
def noList (K : PySem.W.Frag) : Bool := K.all fun q => match q.2.cls with
  | .type c => !decide (c = "list")
  | _ => true
theorem noList_ok {K : PySem.W.Frag} (h : noList K = true) {a : Addr} {o : Obj} (ho : o.cls = .type "list") : K.lookup a ≠ some o := fun e => by
  have z := List.all_eq_true.mp h _ (He.lookup_mem e)
  simp only [ho] at z
  exact absurd z (by decide)
def TupG (K : PySem.W.Frag) (mg : Str → Option Value) (x : Str) (is : List Int) : Prop :=
  ∃ (a : Addr) (o : Obj) (its : Array Value) (n : Nat), mg x = some (.ref a) ∧ K.lookup a = some o ∧ o.cls = .type "tuple" ∧ o.data = .seq its n ∧ its.size ≤ sizeLine ∧ Vals (is.map V.int) its.toList
def intsB : List Int → List Value → Bool
  | [], [] => true
  | i :: is, .int j _ :: vs => decide (j = i) && intsB is vs
  | _, _ => false
theorem intsB_ok : ∀ {is : List Int} {vs : List Value}, intsB is vs = true → Vals (is.map V.int) vs
  | [], [], _ => .nil
  | i :: is, .int j t :: vs, h => by
    have h : (decide (j = i) && intsB is vs) = true := h
    rw [Bool.and_eq_true] at h
    have e := of_decide_eq_true h.1
    subst e
    exact .cons ⟨t, rfl⟩ (intsB_ok h.2)
  | [], _ :: _, h => by cases h
  | _ :: _, [], h => by cases h
  | _ :: _, .none :: _, h => by cases h
  | _ :: _, .bool _ :: _, h => by cases h
  | _ :: _, .str _ _ :: _, h => by cases h
  | _ :: _, .ref _ :: _, h => by cases h
  | _ :: _, .type _ :: _, h => by cases h
  | _ :: _, .builtin _ :: _, h => by cases h
  | _ :: _, .notImplemented :: _, h => by cases h
  | _ :: _, .ellipsis :: _, h => by cases h
  | _ :: _, .float _ _ :: _, h => by cases h
  | _ :: _, .bytes _ _ :: _, h => by cases h
def tupB (x : Str) (is : List Int) (K : PySem.W.Frag) : Bool := match PySem.W.nsIn K mainGlobals x with
  | some (some (.ref a)) => (match K.lookup a with
    | some o => decide (o.cls = .type "tuple") && (match o.data with
      | .seq its _ => decide (its.size ≤ 1000) && intsB is its.toList
      | _ => false)
    | none => false)
  | _ => false
theorem tupB_ok {K : PySem.W.Frag} {mg : Str → Option Value} {h : Heap} {x : Str} {is : List Int} (KX : K.In h) (G : h.Ns mainGlobals mg) (c : tupB x is K = true) : TupG K mg x is := by
  unfold tupB at c
  cases e : PySem.W.nsIn K mainGlobals x with
  | none => rw [e] at c; cases c
  | some v =>
    rw [e] at c
    cases v with
    | none => cases c
    | some v =>
      have hm := PySem.W.mg_of KX G e
      cases v with
      | ref a =>
        dsimp only at c
        cases hl : K.lookup a with
        | none => rw [hl] at c; cases c
        | some o =>
          rw [hl] at c
          dsimp only at c
          rw [Bool.and_eq_true] at c
          obtain ⟨c1, c2⟩ := c
          cases hd : o.data with
          | seq its n =>
            rw [hd] at c2
            dsimp only at c2
            rw [Bool.and_eq_true] at c2
            have z := of_decide_eq_true c2.1
            exact ⟨a, o, its, n, hm, hl, of_decide_eq_true c1, hd, Nat.le_trans z (by decide), intsB_ok c2.2⟩
          | _ => rw [hd] at c2; cases c2
      | _ => cases c
/-! no one watches the import system -/
def strKey (e : DictEntry) : Bool := match e.key with
  | .str _ _ => true
  | _ => false
def noKey (g : Addr → Option Obj) (a : Addr) (xs : List Str) : Bool := match g a with
  | some ⟨_, _, .dict es _, _⟩ => es.toList.all strKey && xs.all fun x => (es.toList.find? fun e => e.key.isStr x).isNone
  | _ => false
theorem noKey_ok {h : Heap} {a : Addr} {xs : List Str} (e : noKey h.get? a xs = true) : ∃ m, h.Ns a m ∧ ∀ x ∈ xs, m x = none := by
  unfold noKey at e
  split at e
  · rename_i c d es ep sl q
    obtain ⟨e1, e2⟩ := Bool.and_eq_true_iff.mp e
    refine ⟨fun x => nsFind es x, ⟨_, es, ep, q, rfl, fun k hk => ?_, fun _ => rfl⟩, fun x hx => ?_⟩
    · have z := List.all_eq_true.mp e1 k (Array.mem_toList_iff.mpr hk)
      unfold strKey at z
      split at z
      · rename_i n t y
        exact ⟨n, t, y⟩
      · cases z
    · have z := List.all_eq_true.mp e2 x hx
      have y := Option.isNone_iff_eq_none.mp z
      show nsFind es x = none
      unfold nsFind findBy
      rw [← Array.find?_toList, y]
      rfl
  · cases e
structure NoKeys (h : Heap) : Prop where
  statics : ∃ m, h.Ns cStatics m ∧ ∀ x ∈ (["sys.audit-hooks", "sys.dict"] : List Str), m x = none
  mods : ∃ m, h.Ns sysModules m ∧ ∀ x ∈ (["_pylong"] : List Str), m x = none
theorem NoKeys.keeps {h h' : Heap} (x : NoKeys h) (hk : ∀ b o, h.get? b = some o → h'.get? b = some o) : NoKeys h' :=
  ⟨let ⟨m, a, b⟩ := x.statics; ⟨m, a.keepsP hk, b⟩, let ⟨m, a, b⟩ := x.mods; ⟨m, a.keepsP hk, b⟩⟩
def seesB (g : Addr → Option Obj) : Bool := noKey g cStatics ["sys.audit-hooks", "sys.dict"] && noKey g sysModules ["_pylong"]
theorem seesB_ok {h : Heap} (e : seesB h.get? = true) : NoKeys h :=
  let z := Bool.and_eq_true_iff.mp e
  ⟨noKey_ok z.1, noKey_ok z.2⟩
abbrev AlY : Type := He.AlX × Bool
def obsY (n : Nat) (fa : List He.Fa) (fn : List He.DefD) (tf : List He.Defn) (ex : PySem.W.Frag → Bool) (g : Addr → Option Obj) : AlY := (He.obsX n fa fn [] tf ex g, seesB g)
/-- the head's facts, and that no one watches -/
def hookY (n : Nat) (fa : List He.Fa) (fn : List He.DefD) (tf : List He.Defn) (ex : PySem.W.Frag → Bool) : PySem.W.Hook where
  α := AlY
  obs := fun s => obsY n fa fn tf ex s.heap.get?
  val := fun w => (He.valX fn [] w, true)
  says := fun w h => (∃ K : PySem.W.Frag, K.In h ∧ He.SaysX fa fn [] tf ex w h K) ∧ NoKeys h
  of := fun w s e => ⟨(He.hookX n fa fn [] tf ex).of w s (congrArg Prod.fst e), seesB_ok (congrArg Prod.snd e)⟩
  keeps := fun w h h' x k => ⟨(He.hookX n fa fn [] tf ex).keeps w h h' x.1 k, x.2.keeps k⟩
theorem obsY_eq {n : Nat} {fa : List He.Fa} {fn : List He.DefD} {tf : List He.Defn} {ex : PySem.W.Frag → Bool} {g : Addr → Option Obj} {s : Shared} (h : ∀ a, g a = s.heap.get? a) : obsY n fa fn tf ex g = (hookY n fa fn tf ex).obs s := by
  have e : g = s.heap.get? := funext h
  rw [e] <;> rfl
def at0 (x : Str) : Str × Option Str := (x, none)
def dD (body : List Stmt) (x : Str) (i : Nat) : He.DefD := let st := body.getD i (.Pass ⟨0, 0, 0, 0⟩); ⟨at0 x, x, x, defArgs st, defBody st, defScope st, [], []⟩
end Mir
/-! What the head must tell, and the law's def by its mirror. -/
namespace K06
open PySem PySem.Spec PyProof.Rows L2 Mir
abbrev bodyT : List Stmt := PySem.Challenge.pw_cornerranks_k06_whole_minors_of_the_inve.main.body
abbrev fr : List Str := ["abs", "all", "bool", "divmod", "enumerate", "int", "isinstance", "len", "list", "max", "min", "range", "str", "sum", "tuple", "zip"]
abbrev dn : List Str := (["_law_draw", "_law_many", "_law_flip", "_law_lean", "_law_dot", "_law_mul", "_law_pick", "_law_number", "_law_spare", "_law_lead", "_law_stairs", "_law_mixed", "_law_regular", "_law_lot_of", "_law_lots"] : List Str) ++ (["is_tuple_of", "is_whole", "is_fraction", "is_row", "is_table", "is_square", "check_square", "_first_row", "_less_multiple", "_cleared", "_moved_up", "swept", "whole_rows", "fraction", "reduced"] : List Str) ++ (["_ends_swept", "unit_row", "inverse", "_law_minor", "_law_common", "_law_wholes", "_law_det", "_law_is_whole", "_law_same", "determinant", "_law_undone", "check_table", "is_between", "is_lot", "check_lot"] : List Str) ++ (["check_part", "numbers_at", "part", "_law_beside", "_law_piece", "_law_due", "_law_right", "_law_well", "law"] : List Str)
abbrev fn : List He.DefD := ([dD bodyT "_law_draw" 41, dD bodyT "_law_many" 53, dD bodyT "_law_flip" 45, dD bodyT "_law_lean" 43, dD bodyT "_law_dot" 44, dD bodyT "_law_mul" 46, dD bodyT "_law_pick" 42, dD bodyT "_law_number" 47, dD bodyT "_law_spare" 49, dD bodyT "_law_lead" 48, dD bodyT "_law_stairs" 50, dD bodyT "_law_mixed" 51, dD bodyT "_law_regular" 52, dD bodyT "_law_lot_of" 55, dD bodyT "_law_lots" 54] : List He.DefD) ++ ([dD bodyT "is_tuple_of" 12, dD bodyT "is_whole" 10, dD bodyT "is_fraction" 13, dD bodyT "is_row" 14, dD bodyT "is_table" 26, dD bodyT "is_square" 34, dD bodyT "check_square" 35, dD bodyT "_first_row" 18, dD bodyT "_less_multiple" 20, dD bodyT "_cleared" 21, dD bodyT "_moved_up" 19, dD bodyT "swept" 22, dD bodyT "whole_rows" 17, dD bodyT "fraction" 15, dD bodyT "reduced" 23] : List He.DefD) ++ ([dD bodyT "_ends_swept" 37, dD bodyT "unit_row" 16, dD bodyT "inverse" 38, dD bodyT "_law_minor" 60, dD bodyT "_law_common" 58, dD bodyT "_law_wholes" 59, dD bodyT "_law_det" 61, dD bodyT "_law_is_whole" 63, dD bodyT "_law_same" 64, dD bodyT "determinant" 36, dD bodyT "_law_undone" 62, dD bodyT "check_table" 27, dD bodyT "is_between" 11, dD bodyT "is_lot" 28, dD bodyT "check_lot" 29] : List He.DefD) ++ ([dD bodyT "check_part" 30, dD bodyT "numbers_at" 31, dD bodyT "part" 32, dD bodyT "_law_beside" 56, dD bodyT "_law_piece" 57, dD bodyT "_law_due" 65, dD bodyT "_law_right" 66, dD bodyT "_law_well" 40, dD bodyT "law" 67] : List He.DefD)
abbrev fa : List He.Fa := fr.map .free ++ dn.map .glo ++ [.int "MOST" 6]
abbrev tf : List He.Defn := [at0 "is_row", at0 "is_table", at0 "reduced", at0 "_ends_swept", at0 "unit_row", at0 "numbers_at"]
def exL (K : PySem.W.Frag) : Bool := noList K && (tupB "NIL" [0, 1] K && (tupB "ONE" [1, 1] K && (He.eqO (PySem.W.nsIn K mainGlobals "gcd") (some (some (.builtin "math.gcd"))) && (He.eqO (PySem.W.nsIn K mainGlobals "lcm") (some (some (.builtin "math.lcm")))))))
end K06
/-! The head: the top's run by the kernel, the facts. -/
namespace K06
open PySem PySem.Spec PyProof.Rows L2 Mir
abbrev R : PySem.W.OpenRow := PySem.W.OpenLaw.row PySem.Challenge.rw_cornerranks_k06_whole_minors_of_the_inve
def loose : List PySem.Str := (["CornerError", "InvalidTable", "InvalidSquare", "InvalidLot", "NotRegular", "NIL", "ONE", "is_whole", "is_between", "is_tuple_of", "is_fraction", "is_row", "fraction", "unit_row", "whole_rows"] : List PySem.Str) ++ (["_first_row", "_moved_up", "_less_multiple", "_cleared", "swept", "reduced", "MOST", "is_table", "check_table", "is_lot", "check_lot", "check_part", "numbers_at", "part", "is_square"] : List PySem.Str) ++ (["check_square", "determinant", "_ends_swept", "inverse", "_law_well", "_law_draw", "_law_pick", "_law_lean", "_law_dot", "_law_flip", "_law_mul", "_law_number", "_law_lead", "_law_spare", "_law_stairs"] : List PySem.Str) ++ (["_law_mixed", "_law_regular", "_law_many", "_law_lots", "_law_lot_of", "_law_beside", "_law_piece", "_law_common", "_law_wholes", "_law_minor", "_law_det", "_law_undone", "_law_is_whole", "_law_same", "_law_due"] : List PySem.Str) ++ (["_law_right"] : List PySem.Str)
abbrev hk : PySem.W.Hook := hookY 4 fa fn tf exL
def ob (s : PySem.W.SharedT) : AlY := obsY 4 fa fn tf exL (HandSHeadRun.getT s)
theorem ob_eq (s : PySem.W.SharedT) : ob s = hk.obs s.abs := obsY_eq (HandSHeadRun.getT_eq s)
theorem join6 {X A B C D E F G : Type} {o : Option X} {l : X → A} {s : X → B} {p : X → ((((C × D) × E) × F) × G)} {a : A} {b : B} {c : C} {d : D} {e : E} {f : F} {g : G} (h1 : o.map (fun x => (l x, s x)) = some (a, b)) (h2 : o.map (fun x => (p x).1.1.1.1) = some c) (h3 : o.map (fun x => ((p x).1.1.1.2, (p x).1.2, (p x).2)) = some (d, f, g)) (h4 : ∀ x, (p x).1.1.2 = e) : o.map (fun x => (l x, s x, p x)) = some (a, b, ((((c, d), e), f), g)) := by
  cases o with
  | none => cases h1
  | some x =>
    have h1 : (l x, s x) = (a, b) := Option.some.inj h1
    have h2 : (p x).1.1.1.1 = c := Option.some.inj h2
    have h3 : ((p x).1.1.1.2, (p x).1.2, (p x).2) = (d, f, g) := Option.some.inj h3
    have h4 : (p x).1.1.2 = e := h4 x
    show some (l x, s x, p x) = _
    generalize p x = q at h2 h3 h4 ⊢
    obtain ⟨⟨⟨⟨q1, q2⟩, q3⟩, q4⟩, q5⟩ := q
    cases h1
    cases h2
    cases h3
    cases h4
    rfl
noncomputable def topW (w : World) := HandSHeadRun.wholeF (fun p => HandSHeadRun.stepQ (HandSHeadRun.denQ HandSHeadRun.tabQ) p w) HandSHeadRun.fenceQ 8000 R.prog
theorem runA (w : World) : (topW w).map (fun x => (HandSHeadRun.looksF R.prog x.1.heap x.2.abs, HandSHeadRun.seenQ (PySem.W.view R.prog [0, 67]) loose (PySem.importedModules R.prog.main.body) (fun s => PySem.W.xlAt (PySem.W.view R.prog [0, 67]) [] s && PySem.W.recOk R.toRowW.records s) x.2.abs)) = some (true, PySem.W.openGood (PySem.W.view R.prog [0, 67]) loose) := by kernel_rfl
theorem runB (w : World) : (topW w).map (fun x => (ob x.2).1.1.1.1) = some true := by kernel_rfl
theorem runC (w : World) : (topW w).map (fun x => ((ob x.2).1.1.1.2, (ob x.2).1.2, (ob x.2).2)) = some (fn.map He.DefD.val, true, true) := by kernel_rfl
theorem run (w : World) : HandSHeadRun.RunEqI R (PySem.W.view R.prog [0, 67]) hk ob 8000 loose w := by
  unfold HandSHeadRun.RunEqI
  exact join6 (o := topW w) (l := fun x => HandSHeadRun.looksF R.prog x.1.heap x.2.abs) (s := fun x => HandSHeadRun.seenQ (PySem.W.view R.prog [0, 67]) loose (PySem.importedModules R.prog.main.body) (fun s => PySem.W.xlAt (PySem.W.view R.prog [0, 67]) [] s && PySem.W.recOk R.toRowW.records s) x.2.abs) (p := fun x => ob x.2) (runA w) (runB w) (runC w) fun _ => rfl
end K06
/-! law_k06_whole_minors_of_the_inverse: the law's look, ahead of all else. -/
namespace K06
open PySem PySem.W PySem.Calls PyProof.Rows
theorem holds_pre (call : PySem.W.WalkO (view (OpenLaw.row PySem.Challenge.rw_cornerranks_k06_whole_minors_of_the_inve).prog [0, 67]) loose (PySem.W.XL (view (OpenLaw.row PySem.Challenge.rw_cornerranks_k06_whole_minors_of_the_inve).prog [0, 67]) []) hk.says (OpenLaw.row PySem.Challenge.rw_cornerranks_k06_whole_minors_of_the_inve).toRowW (HandSHeadRun.topDef (OpenLaw.row PySem.Challenge.rw_cornerranks_k06_whole_minors_of_the_inve).prog 67) [] (fun f vs => PySem.call f vs)) : PySem.Challenge.rw_cornerranks_k06_whole_minors_of_the_inve.Holds := by
  w_on; o_law
  refine HandSHeadRun.head_imp (r := OpenLaw.row PySem.Challenge.rw_cornerranks_k06_whole_minors_of_the_inve) (q := view (OpenLaw.row PySem.Challenge.rw_cornerranks_k06_whole_minors_of_the_inve).prog [0, 67]) (H := hk) (ob := ob) (M := 8000) (loose := loose) (d := HandSHeadRun.topDef (OpenLaw.row PySem.Challenge.rw_cornerranks_k06_whole_minors_of_the_inve).prog 67) (kwd := []) ob_eq run
    (by kernel_rfl) (by kernel_rfl) (by kernel_rfl) (by rfl) (by first | assumption | decide +kernel) (by decide +kernel) ⟨rfl, rfl, rfl, rfl, rfl, by decide +kernel⟩ ?hw call
  case hw => w_witness2
theorem tree_none : PySem.Challenge.rw_cornerranks_k06_whole_minors_of_the_inve.prog.given.tree = none := by kernel_rfl
theorem no_defaults : (HandSHeadRun.topDef (OpenLaw.row PySem.Challenge.rw_cornerranks_k06_whole_minors_of_the_inve).prog 67).params.defaults = [] := by kernel_rfl
theorem law_name : (HandSHeadRun.topDef (OpenLaw.row PySem.Challenge.rw_cornerranks_k06_whole_minors_of_the_inve).prog 67).name = ("law" : PySem.Str) := by kernel_rfl
end K06
/-! The mirror: a def's meaning as a total function over plain data, and what ties it to the layer's readings. -/
namespace Mir
open PySem PySem.Spec PyProof.Rows L2

abbrev D := PyData
abbrev ME := List (Option PyData)
/-- an exception: its class by name, what it bears -/
structure Exn where
  cls : String
  pay : Option PyData
/-- how a step ends -/
inductive Res (α : Type) where
  | ok (a : α) (e : ME)
  | exc (x : Exn) (e : ME)
  | bad
abbrev M (α : Type) := ME → Res α
def ret {α : Type} (a : α) : M α := fun e => .ok a e
def bnd {α β : Type} (m : M α) (f : α → M β) : M β := fun e => match m e with
  | .ok a e' => f a e'
  | .exc x e' => .exc x e'
  | .bad => .bad
def bad {α : Type} : M α := fun _ => .bad
/-- a value from an option -/
def opt {α : Type} (o : Option α) : M α := fun e => match o with
  | some a => .ok a e
  | none => .bad

/-! ### data as they lie -/
mutual
inductive Dq (K : PySem.W.Frag) (H : Hp) : V → PyData → Prop
  | non : Dq K H .non .none
  | bl (b : Bool) : Dq K H (.bl b) (.bool b)
  | int (i : Int) : Dq K H (.int i) (.int i)
  | str (x : Str) : Dq K H (.str x) (.str x)
  | lst {a : Addr} {xs : List V} {ds : List PyData} : Rd H a (.lst xs) → DqAll K H xs ds → Dq K H (.ref a) (.list ds)
  | tup {a : Addr} {xs : List V} {ds : List PyData} : SqT K H a xs → DqAll K H xs ds → Dq K H (.ref a) (.tuple ds)
  | dic {a : Addr} : Rd H a (.dK []) → Dq K H (.ref a) (.dict [])
inductive DqAll (K : PySem.W.Frag) (H : Hp) : List V → List PyData → Prop
  | nil : DqAll K H [] []
  | cons {v : V} {vs : List V} {d : PyData} {ds : List PyData} : Dq K H v d → DqAll K H vs ds → DqAll K H (v :: vs) (d :: ds)
end

/-! ### heaps -/
def Le (G G' : Hp) : Prop := ∀ a o, G a = some o → G' a = some o
theorem Le.refl (G : Hp) : Le G G := fun _ _ h => h
theorem Le.trans {G G1 G2 : Hp} (a : Le G G1) (b : Le G1 G2) : Le G G2 := fun x o h => b x o (a x o h)
theorem Le.new {G : Hp} {p : Addr} {o : HO} (h : G p = none) : Le G (upd G p o) := fun a u e => by
  rw [upd_ne (ne_of_none e h)]
  exact e
theorem Le.none {G G' : Hp} {p : Addr} (e : Le G G') (h : G' p = Option.none) : G p = Option.none := by
  cases h1 : G p with
  | none => rfl
  | some o =>
    rw [e p o h1] at h
    cases h
section
variable {K : PySem.W.Frag} {G G' : Hp} {a : Addr} {xs : List V}
theorem Le.sl (e : Le G G') (h : SqL K G a xs) : SqL K G' a xs := by
  rcases h with (h | ⟨o, h⟩) | h
  · exact .inl (.inl (e _ _ h))
  · exact .inl (.inr ⟨o, e _ _ h⟩)
  · exact .inr h
theorem Le.st (e : Le G G') (h : SqT K G a xs) : SqT K G' a xs := by
  rcases h with (h | ⟨o, h⟩) | h
  · exact .inl (.inl (e _ _ h))
  · exact .inl (.inr ⟨o, e _ _ h⟩)
  · exact .inr h
theorem Le.rd {u : HO} (e : Le G G') (h : Rd G a u) : Rd G' a u := by
  rcases h with h | ⟨o, h⟩
  · exact .inl (e _ _ h)
  · exact .inr ⟨o, e _ _ h⟩
mutual
theorem Dq.mono (e : Le G G') : ∀ (d : PyData) (x : V), Dq K G x d → Dq K G' x d
  | .none, _, h => by cases h; exact .non
  | .bool b, _, h => by cases h; exact .bl b
  | .int i, _, h => by cases h; exact .int i
  | .str s, _, h => by cases h; exact .str s
  | .list ds, _, h => by
    cases h with
    | lst hs ha => exact .lst (e.rd hs) (DqAll.mono e ds _ ha)
  | .tuple ds, _, h => by
    cases h with
    | tup hs ha => exact .tup (e.st hs) (DqAll.mono e ds _ ha)
  | .dict _, _, h => by
    cases h with
    | dic hs => exact .dic (e.rd hs)
theorem DqAll.mono (e : Le G G') : ∀ (ds : List PyData) (xs : List V), DqAll K G xs ds → DqAll K G' xs ds
  | [], _, h => by cases h; exact .nil
  | d :: ds, _, h => by
    cases h with
    | cons h1 h2 => exact .cons (Dq.mono e d _ h1) (DqAll.mono e ds _ h2)
end
end
mutual
theorem Dq.dp {K : PySem.W.Frag} {G : Hp} : ∀ (d : PyData) (x : V), PyData.canLay0 d = true → Dq K G x d → Dp K G x d
  | .none, _, _, h => by cases h; exact .non
  | .bool b, _, _, h => by cases h; exact .bl b
  | .int i, _, _, h => by cases h; exact .int i
  | .str s, _, _, h => by cases h; exact .str s
  | .list ds, _, n, h => by
    cases h with
    | lst hs ha => exact .lst (.inl hs) (DqAll.dp ds _ (by simpa [PyData.canLay0] using n) ha)
  | .tuple ds, _, n, h => by
    cases h with
    | tup hs ha => exact .tup hs (DqAll.dp ds _ (by simpa [PyData.canLay0] using n) ha)
  | .dict _, _, n, h => by simp [PyData.canLay0] at n
theorem DqAll.dp {K : PySem.W.Frag} {G : Hp} : ∀ (ds : List PyData) (xs : List V), PyData.canLayAll0 ds = true → DqAll K G xs ds → DpAll K G xs ds
  | [], _, _, h => by cases h; exact .nil
  | d :: ds, _, n, h => by
    have n : PyData.canLay0 d = true ∧ PyData.canLayAll0 ds = true := by simpa [PyData.canLayAll0] using n
    cases h with
    | cons h1 h2 => exact .cons (Dq.dp d _ n.1 h1) (DqAll.dp ds _ n.2 h2)
end
theorem DqAll.len {K : PySem.W.Frag} {G : Hp} : ∀ {xs : List V} {ds : List PyData}, DqAll K G xs ds → xs.length = ds.length
  | _, _, .nil => rfl
  | _, _, .cons _ h => by rw [List.length_cons, List.length_cons, DqAll.len h]
theorem DqAll.at {K : PySem.W.Frag} {G : Hp} : ∀ {xs : List V} {ds : List PyData} {i : Nat} {d : PyData}, DqAll K G xs ds → ds[i]? = some d → ∃ x, xs[i]? = some x ∧ Dq K G x d
  | _, _, _, _, .nil, h => by simp at h
  | _, _, 0, _, .cons h1 _, h => by
    rw [List.getElem?_cons_zero] at h
    cases h
    exact ⟨_, rfl, h1⟩
  | _, _, i + 1, _, .cons _ h2, h => by
    rw [List.getElem?_cons_succ] at h ⊢
    exact DqAll.at h2 h
theorem DqAll.app {K : PySem.W.Frag} {G : Hp} : ∀ {xs ys : List V} {ds es : List PyData}, DqAll K G xs ds → DqAll K G ys es → DqAll K G (xs ++ ys) (ds ++ es)
  | _, _, _, _, .nil, s => s
  | _, _, _, _, .cons r t, s => .cons r (DqAll.app t s)
theorem DqAll.take {K : PySem.W.Frag} {G : Hp} : ∀ {xs : List V} {ds : List PyData} (n : Nat), DqAll K G xs ds → DqAll K G (xs.take n) (ds.take n)
  | _, _, 0, _ => .nil
  | _, _, _ + 1, .nil => .nil
  | _, _, n + 1, .cons r t => .cons r (DqAll.take n t)
theorem DqAll.drop {K : PySem.W.Frag} {G : Hp} : ∀ {xs : List V} {ds : List PyData} (n : Nat), DqAll K G xs ds → DqAll K G (xs.drop n) (ds.drop n)
  | _, _, 0, r => r
  | _, _, _ + 1, .nil => .nil
  | _, _, n + 1, .cons _ t => DqAll.drop n t
theorem DqAll.set {K : PySem.W.Frag} {G : Hp} {x : V} {d : PyData} (r : Dq K G x d) : ∀ {xs : List V} {ds : List PyData} (i : Nat), DqAll K G xs ds → DqAll K G (xs.set i x) (ds.set i d)
  | _, _, _, .nil => .nil
  | _, _, 0, .cons _ t => .cons r t
  | _, _, i + 1, .cons q t => .cons q (DqAll.set r i t)
theorem DqAll.rev {K : PySem.W.Frag} {G : Hp} : ∀ {xs : List V} {ds : List PyData}, DqAll K G xs ds → DqAll K G xs.reverse ds.reverse
  | _, _, .nil => .nil
  | _, _, .cons r t => by
    rw [List.reverse_cons, List.reverse_cons]
    exact DqAll.app (DqAll.rev t) (.cons r .nil)

/-! ### the ground of a def's run -/
/-- what stays the same through a def's run: the written part, the heaps ahead (H0 what was tracked, G0 what is held fast), which slots hold lists that change, the slots with a list of the caller's and where it stands, the tables of the code, the wish about exceptions -/
structure Bd where
  K : PySem.W.Frag
  H0 : Hp
  G0 : Hp
  mu : List Bool
  io : List (Nat × Addr)
  T : List Addr
  W : WX
/-- the code object at c has its table at P -/
def CodeO (c P : Addr) : HO := .ext fun h => PySem.W.CodeHd h c P
theorem codeO_tbl {c P : Addr} (ps : Array Value) : CodeO c P ≠ .tbl ps := fun z => by unfold CodeO at z; cases z
theorem codeO_lst {c P : Addr} (xs : List V) : CodeO c P ≠ .lst xs := fun z => by unfold CodeO at z; cases z
/-- a table: each code object that it tells is known, and has a table -/
inductive TabG (H : Hp) : Addr → Prop
  | mk {P : Addr} {ps : Array Value} (c P' : Pos → Value → Addr) : H P = some (.tbl ps) → TriplesOk ps.toList → (∀ pos cv, codeAmong pos ps.toList = some cv → cv = .ref (c pos cv) ∧ H (c pos cv) = some (CodeO (c pos cv) (P' pos cv))) →
      (∀ pos cv, codeAmong pos ps.toList = some cv → TabG H (P' pos cv)) → TabG H P
theorem TabG.ext {H H' : Hp} {P : Addr} (t : TabG H P) (e : ∀ b o, H b = some o → (∀ xs, o ≠ .lst xs) → H' b = some o) : TabG H' P := by
  induction t with
  | mk c P' h1 h2 h3 h4 ih => exact .mk c P' (e _ _ h1 fun xs z => by cases z) h2 (fun pos cv hc => ⟨(h3 pos cv hc).1, e _ _ (h3 pos cv hc).2 codeO_lst⟩) ih
theorem TabG.nil {H : Hp} {P : Addr} (h : H P = some (.tbl #[])) : TabG H P :=
  .mk (fun _ _ => 0) (fun _ _ => 0) h True.intro (fun pos cv hc => by
    have z : codeAmong pos [] = some cv := hc
    simp [codeAmong] at z) fun pos cv hc => by
    have z : codeAmong pos [] = some cv := hc
    simp [codeAmong] at z
/-- the heaps as they stand: G is held fast, all of it in H -/
structure Gnd (B : Bd) (H G : Hp) : Prop where
  sub : Le G H
  g0 : Le B.G0 G
  fr : ∀ a o, B.H0 a = some o → (∀ p ∈ B.io, p.2 ≠ a) → (∀ ps, o ≠ .tbl ps) → H a = some o
  nw : ∀ a o, G a = some o → B.G0 a = some o ∨ B.H0 a = none
  nt : ∀ a ps, G a ≠ some (.tbl ps)
  tab : ∀ P ∈ B.T, TabG H P
  keep : ∀ a, H a = none → B.H0 a = none
/-- a list that changes -/
structure Own (B : Bd) (H G : Hp) (b : Addr) (d : PyData) : Prop where
  ex : ∃ xs ds, d = .list ds ∧ H b = some (.lst xs) ∧ DqAll B.K G xs ds
  out : G b = none
structure Rel (B : Bd) (σ : L2.St) (H G : Hp) (env : ME) : Prop where
  gnd : Gnd B H G
  len : env.length = σ.length
  imm : ∀ i d, env[i]? = some (some d) → B.mu.getD i false = false → ∃ x, σ[i]? = some (some x) ∧ Dq B.K G x d
  mt : ∀ i d, env[i]? = some (some d) → B.mu.getD i false = true → ∃ b, σ[i]? = some (some (.ref b)) ∧ Own B H G b d ∧ ((i, b) ∈ B.io ∨ (B.H0 b = none ∧ ∀ p ∈ B.io, p.2 ≠ b))
  inj : ∀ i j b d e, env[i]? = some (some d) → env[j]? = some (some e) → B.mu.getD i false = true → B.mu.getD j false = true → σ[i]? = some (some (.ref b)) → σ[j]? = some (some (.ref b)) → i = j
  iok : ∀ p ∈ B.io, B.mu.getD p.1 false = true ∧ σ[p.1]? = some (some (.ref p.2)) ∧ ∃ d, env[p.1]? = some (some d)
/-- an exception as it lies: its class is told by the def's wish -/
structure ExV (B : Bd) (H G : Hp) (x : Exn) (cls : Value) (d : Option Addr) : Prop where
  cls : True
  pay : ∀ y, x.pay = some y → ∃ dd f v, d = some dd ∧ H dd = some (.xd [(f, v)]) ∧ Dq B.K G v y
def XW (B : Bd) (x : Exn) (env : ME) : Prop := ∀ σ H G cls d, Rel B σ H G env → ExV B H G x cls d → B.W cls d σ H
/-- the step ends well: what follows, the wish about exceptions -/
def Good {α : Type} (B : Bd) (r : Res α) (k : α → ME → Prop) : Prop := match r with
  | .ok a e => k a e
  | .exc x e => XW B x e
  | .bad => False
theorem Good.imp {α : Type} {B : Bd} {r : Res α} {k k' : α → ME → Prop} (h : Good B r k) (i : ∀ a e, k a e → k' a e) : Good B r k' := by
  cases r with
  | ok a e => exact i a e h
  | exc x e => exact h
  | bad => exact h
theorem good_bnd {α β : Type} {B : Bd} {m : M α} {f : α → M β} {e : ME} {k : β → ME → Prop} (h : Good B (bnd m f e) k) : Good B (m e) fun a e' => Good B (f a e') k := by
  unfold bnd at h
  cases hm : m e with
  | ok a e' => rw [hm] at h; exact h
  | exc x e' => rw [hm] at h; exact h
  | bad => rw [hm] at h; exact h

/-- an expression, a test, arguments by their mirror -/
def tE (B : Bd) (f : M PyData) : TE := fun σ H Q => ∃ G env, Rel B σ H G env ∧ Good B (f env) fun d env' => ∀ x H' G', Le G G' → Rel B σ H' G' env' → Dq B.K G' x d → Q x H'
def tT (B : Bd) (f : M Bool) : TT := fun σ H Q => ∃ G env, Rel B σ H G env ∧ Good B (f env) fun b env' => ∀ H' G', Le G G' → Rel B σ H' G' env' → Q b H'
def tA (B : Bd) (f : M (List PyData)) : TA := fun σ H Q => ∃ G env, Rel B σ H G env ∧ Good B (f env) fun ds env' => ∀ xs H' G', Le G G' → Rel B σ H' G' env' → DqAll B.K G' xs ds → Q xs H'
/-- no slot that changes holds it -/
structure Fresh (B : Bd) (σ : L2.St) (env : ME) (b : Addr) : Prop where
  h0 : B.H0 b = none
  no : ∀ i d, env[i]? = some (some d) → B.mu.getD i false = true → σ[i]? ≠ some (some (.ref b))
/-- a new list of one's own -/
def tO (B : Bd) (f : M PyData) : TE := fun σ H Q => ∃ G env, Rel B σ H G env ∧ Good B (f env) fun d env' => ∀ b H' G', Le G G' → Rel B σ H' G' env' → Own B H' G' b d → Fresh B σ env' b → Q (.ref b) H'

/-! ### readings may be made stronger -/
section
variable {X : Cx}
theorem PE.imp {e : Expr} {t t' : TE} (h : PE X e t) (i : ∀ σ H Q, t' σ H Q → t σ H Q) : PE X e t' := ⟨fun pins s σ H Q I q => h.run pins s σ H Q I (i σ H Q q)⟩
theorem PT.imp {e : Expr} {t t' : TT} (h : PT X e t) (i : ∀ σ H Q, t' σ H Q → t σ H Q) : PT X e t' := ⟨fun pins s σ H Q I q => h.run pins s σ H Q I (i σ H Q q)⟩
theorem PA.imp {es : List Expr} {t t' : TA} (h : PA X es t) (i : ∀ σ H Q, t' σ H Q → t σ H Q) : PA X es t' := ⟨fun pos pins s σ H Q I q => h.run pos pins s σ H Q I (i σ H Q q)⟩
theorem PS.imp {st : Stmt} {t t' : TS} (h : PS X st t) (i : ∀ D σ H, t' D σ H → t D σ H) : PS X st t' := ⟨fun pins s σ H D I q => h.run pins s σ H D I (i D σ H q)⟩
theorem PSs.imp {st : List Stmt} {t t' : TS} (h : PSs X st t) (i : ∀ D σ H, t' D σ H → t D σ H) : PSs X st t' := ⟨fun pins s σ H D I q => h.run pins s σ H D I (i D σ H q)⟩
end

/-! ### steps of the heaps -/
section
variable {B : Bd} {σ : L2.St} {H G : Hp} {env : ME} {p : Addr} {o : HO}
theorem Rel.dq {i : Nat} {d : PyData} (R : Rel B σ H G env) (h : env[i]? = some (some d)) (hm : B.mu.getD i false = false) : ∃ x, σ[i]? = some (some x) ∧ Dq B.K G x d := R.imm i d h hm
/-- a new thing that is held fast -/
theorem Gnd.new (g : Gnd B H G) (hp : H p = none) (hn : ∀ ps, o ≠ .tbl ps) : Gnd B (upd H p o) (upd G p o) := by
  have gp : G p = none := g.sub.none hp
  refine ⟨fun a u e => ?_, g.g0.trans (Le.new gp), fun a u e h1 h2 => ?_, fun a u e => ?_, fun a ps e => ?_, fun P hP => ?_, fun a e => ?_⟩
  · by_cases h : a = p
    · subst h; rw [upd_same] at e ⊢; exact e
    · rw [upd_ne h] at e ⊢; exact g.sub a u e
  · have z := g.fr a u e h1 h2
    rw [upd_ne (ne_of_none z hp)]; exact z
  · by_cases h : a = p
    · subst h; exact .inr (g.keep a hp)
    · rw [upd_ne h] at e; exact g.nw a u e
  · by_cases h : a = p
    · subst h; rw [upd_same] at e; exact hn ps (Option.some.inj e)
    · rw [upd_ne h] at e; exact g.nt a ps e
  · exact (g.tab P hP).ext fun b u e _ => by rw [upd_ne (ne_of_none e hp)]; exact e
  · by_cases h : a = p
    · subst h; rw [upd_same] at e; cases e
    · rw [upd_ne h] at e; exact g.keep a e
/-- a new thing that is not -/
theorem Gnd.laid (g : Gnd B H G) (hp : H p = none) : Gnd B (upd H p o) G := by
  refine ⟨fun a u e => ?_, g.g0, fun a u e h1 h2 => ?_, g.nw, g.nt, fun P hP => ?_, fun a e => ?_⟩
  · have z := g.sub a u e
    rw [upd_ne (ne_of_none z hp)]; exact z
  · have z := g.fr a u e h1 h2
    rw [upd_ne (ne_of_none z hp)]; exact z
  · exact (g.tab P hP).ext fun b u e _ => by rw [upd_ne (ne_of_none e hp)]; exact e
  · by_cases h : a = p
    · subst h; rw [upd_same] at e; cases e
    · rw [upd_ne h] at e; exact g.keep a e
theorem Own.step {H' G' : Hp} {b : Addr} {d : PyData} (w : Own B H G b d) (hl : Le G G') (hb : H' b = H b) (hg : G' b = none) : Own B H' G' b d := by
  obtain ⟨xs, ds, e, h, a⟩ := w.ex
  exact ⟨⟨xs, ds, e, hb.trans h, DqAll.mono hl ds xs a⟩, hg⟩
/-- the heaps go on, the lists that change stand as they stood -/
theorem Rel.step {H' G' : Hp} (R : Rel B σ H G env) (g : Gnd B H' G') (hl : Le G G') (hk : ∀ b xs, H b = some (.lst xs) → G b = none → H' b = H b ∧ G' b = none) : Rel B σ H' G' env := by
  refine ⟨g, R.len, fun i d h hm => ?_, fun i d h hm => ?_, R.inj, R.iok⟩
  · obtain ⟨x, h1, h2⟩ := R.imm i d h hm
    exact ⟨x, h1, Dq.mono hl d x h2⟩
  · obtain ⟨b, h1, h2, h3⟩ := R.mt i d h hm
    obtain ⟨xs, ds, e, h4, a⟩ := h2.ex
    obtain ⟨k1, k2⟩ := hk b xs h4 h2.out
    exact ⟨b, h1, h2.step hl k1 k2, h3⟩
theorem Rel.new (R : Rel B σ H G env) (hp : H p = none) (hn : ∀ ps, o ≠ .tbl ps) : Rel B σ (upd H p o) (upd G p o) env :=
  R.step (R.gnd.new hp hn) (Le.new (R.gnd.sub.none hp)) fun b xs h1 h2 => ⟨upd_ne (ne_of_none h1 hp), by rw [upd_ne (ne_of_none h1 hp)]; exact h2⟩
theorem Rel.laid (R : Rel B σ H G env) (hp : H p = none) : Rel B σ (upd H p o) G env :=
  R.step (R.gnd.laid hp) (Le.refl G) fun b xs h1 h2 => ⟨upd_ne (ne_of_none h1 hp), h2⟩
/-- a list of one's own is held fast from now on -/
theorem Gnd.freeze {b : Addr} {xs : List V} (g : Gnd B H G) (hb : H b = some (.lst xs)) (h0 : B.H0 b = none) (hG : G b = none) : Gnd B H (upd G b (.lst xs)) := by
  refine ⟨fun a u e => ?_, g.g0.trans (Le.new hG), g.fr, fun a u e => ?_, fun a ps e => ?_, g.tab, g.keep⟩
  · by_cases h : a = b
    · subst h; rw [upd_same] at e; rw [hb]; exact e
    · rw [upd_ne h] at e; exact g.sub a u e
  · by_cases h : a = b
    · subst h; exact .inr h0
    · rw [upd_ne h] at e; exact g.nw a u e
  · by_cases h : a = b
    · subst h; rw [upd_same] at e; cases e
    · rw [upd_ne h] at e; exact g.nt a ps e
theorem Rel.fresh (R : Rel B σ H G env) (hp : H p = none) : Fresh B σ env p := by
  refine ⟨R.gnd.keep p hp, fun i d h hm z => ?_⟩
  obtain ⟨b, h1, h2, _⟩ := R.mt i d h hm
  rw [h1] at z
  cases z
  obtain ⟨xs, ds, _, h3, _⟩ := h2.ex
  rw [hp] at h3
  cases h3
theorem Rel.freeze {b : Addr} {d : PyData} (R : Rel B σ H G env) (w : Own B H G b d) (f : Fresh B σ env b) : ∃ G', Le G G' ∧ Rel B σ H G' env ∧ Dq B.K G' (.ref b) d := by
  obtain ⟨xs, ds, rfl, hb, ha⟩ := w.ex
  have le : Le G (upd G b (.lst xs)) := Le.new w.out
  refine ⟨upd G b (.lst xs), le, ⟨R.gnd.freeze hb f.h0 w.out, R.len, fun i d h hm => ?_, fun i d h hm => ?_, R.inj, R.iok⟩, .lst (.inl upd_same) (DqAll.mono le _ _ ha)⟩
  · obtain ⟨x, h1, h2⟩ := R.imm i d h hm
    exact ⟨x, h1, Dq.mono le d x h2⟩
  · obtain ⟨c, h1, h2, h3⟩ := R.mt i d h hm
    have hc : c ≠ b := fun z => f.no i d h hm (z ▸ h1)
    exact ⟨c, h1, h2.step le rfl (by rw [upd_ne hc]; exact h2.out), h3⟩
/-- a slot gets a value -/
theorem Rel.set {i : Nat} {x : V} {d : PyData} (R : Rel B σ H G env) (hm : B.mu.getD i false = false) (hd : Dq B.K G x d) (hi : i < σ.length) : Rel B (σ.set i (some x)) H G (env.set i (some d)) := by
  have hl : i < env.length := by rw [R.len]; exact hi
  have ne : ∀ j, B.mu.getD j false = true → j ≠ i := fun j hj z => by rw [z, hm] at hj; cases hj
  refine ⟨R.gnd, by rw [List.length_set, List.length_set]; exact R.len, fun j e h hj => ?_, fun j e h hj => ?_, fun j k b e e' h h' hj hk h1 h2 => ?_, fun p hp => ?_⟩
  · by_cases z : j = i
    · subst z
      rw [List.getElem?_set_self hl] at h
      cases h
      exact ⟨x, List.getElem?_set_self hi, hd⟩
    · rw [List.getElem?_set_ne (Ne.symm z)] at h ⊢
      exact R.imm j e h hj
  · rw [List.getElem?_set_ne (Ne.symm (ne j hj))] at h ⊢
    exact R.mt j e h hj
  · rw [List.getElem?_set_ne (Ne.symm (ne j hj))] at h h1
    rw [List.getElem?_set_ne (Ne.symm (ne k hk))] at h' h2
    exact R.inj j k b e e' h h' hj hk h1 h2
  · obtain ⟨h1, h2, e, h3⟩ := R.iok p hp
    refine ⟨h1, ?_, e, ?_⟩
    · rw [List.getElem?_set_ne (Ne.symm (ne _ h1))]; exact h2
    · rw [List.getElem?_set_ne (Ne.symm (ne _ h1))]; exact h3
/-- a slot gets a list of its own -/
theorem Rel.own {i : Nat} {b : Addr} {d : PyData} (R : Rel B σ H G env) (hm : B.mu.getD i false = true) (w : Own B H G b d) (f : Fresh B σ env b) (hi : i < σ.length) (hio : ∀ p ∈ B.io, p.1 ≠ i) : Rel B (σ.set i (some (.ref b))) H G (env.set i (some d)) := by
  have hl : i < env.length := by rw [R.len]; exact hi
  have ne : ∀ j, B.mu.getD j false = false → j ≠ i := fun j hj z => by rw [z, hm] at hj; cases hj
  have hb : ∀ p ∈ B.io, p.2 ≠ b := fun p hp z => by
    obtain ⟨h1, h2, e, h3⟩ := R.iok p hp
    exact f.no p.1 e h3 h1 (z ▸ h2)
  refine ⟨R.gnd, by rw [List.length_set, List.length_set]; exact R.len, fun j e h hj => ?_, fun j e h hj => ?_, fun j k c e e' h h' hj hk h1 h2 => ?_, fun p hp => ?_⟩
  · rw [List.getElem?_set_ne (Ne.symm (ne j hj))] at h ⊢
    exact R.imm j e h hj
  · by_cases z : j = i
    · subst z
      rw [List.getElem?_set_self hl] at h
      cases h
      exact ⟨b, List.getElem?_set_self hi, w, .inr ⟨f.h0, hb⟩⟩
    · rw [List.getElem?_set_ne (Ne.symm z)] at h ⊢
      exact R.mt j e h hj
  · by_cases zj : j = i
    · by_cases zk : k = i
      · rw [zj, zk]
      · subst zj
        rw [List.getElem?_set_self hi] at h1
        cases h1
        rw [List.getElem?_set_ne (Ne.symm zk)] at h' h2
        exact absurd h2 (f.no k e' h' hk)
    · by_cases zk : k = i
      · subst zk
        rw [List.getElem?_set_self hi] at h2
        cases h2
        rw [List.getElem?_set_ne (Ne.symm zj)] at h h1
        exact absurd h1 (f.no j e h hj)
      · rw [List.getElem?_set_ne (Ne.symm zj)] at h h1
        rw [List.getElem?_set_ne (Ne.symm zk)] at h' h2
        exact R.inj j k c e e' h h' hj hk h1 h2
  · obtain ⟨h1, h2, e, h3⟩ := R.iok p hp
    have z := hio p hp
    refine ⟨h1, ?_, e, ?_⟩
    · rw [List.getElem?_set_ne (Ne.symm z)]; exact h2
    · rw [List.getElem?_set_ne (Ne.symm z)]; exact h3
/-- the list of a slot changes -/
theorem Rel.write {i : Nat} {b : Addr} {e : PyData} {ys : List V} {es : List PyData} (R : Rel B σ H G env) (hm : B.mu.getD i false = true) (hs : σ[i]? = some (some (.ref b))) (he : env[i]? = some (some e)) (ha : DqAll B.K G ys es) :
    Rel B σ (upd H b (.lst ys)) G (env.set i (some (.list es))) := by
  obtain ⟨b', h1, w, h3⟩ := R.mt i e he hm
  rw [hs] at h1
  cases h1
  obtain ⟨xs, ds, ed, hb, _⟩ := w.ex
  have hl : i < env.length := (List.getElem?_eq_some_iff.mp he).1
  have ne : ∀ j, B.mu.getD j false = false → j ≠ i := fun j hj z => by rw [z, hm] at hj; cases hj
  have nb : ∀ {a o}, G a = some o → a ≠ b := fun {a o} h z => by rw [z, w.out] at h; cases h
  refine ⟨⟨fun a o h => by rw [upd_ne (nb h)]; exact R.gnd.sub a o h, R.gnd.g0, fun a o h k1 k2 => ?_, R.gnd.nw, R.gnd.nt, fun P hP => ?_, fun a h => ?_⟩, by rw [List.length_set]; exact R.len, fun j d h hj => ?_, fun j d h hj => ?_, fun j k c d d' h h' hj hk q1 q2 => ?_, fun p hp => ?_⟩
  · have z : a ≠ b := fun z => by
      subst z
      rcases h3 with h3 | ⟨h3, _⟩
      · exact k1 _ h3 rfl
      · rw [h3] at h; cases h
    rw [upd_ne z]
    exact R.gnd.fr a o h k1 k2
  · exact (R.gnd.tab P hP).ext fun b u e hn => by rw [upd_ne (ne_of e hb (hn _))]; exact e
  · by_cases z : a = b
    · subst z; rw [upd_same] at h; cases h
    · rw [upd_ne z] at h; exact R.gnd.keep a h
  · rw [List.getElem?_set_ne (Ne.symm (ne j hj))] at h
    exact R.imm j d h hj
  · by_cases z : j = i
    · subst z
      rw [List.getElem?_set_self hl] at h
      cases h
      exact ⟨b, hs, ⟨⟨ys, es, rfl, upd_same, ha⟩, w.out⟩, h3⟩
    · rw [List.getElem?_set_ne (Ne.symm z)] at h
      obtain ⟨c, q1, q2, q3⟩ := R.mt j d h hj
      have hc : c ≠ b := fun zc => z (R.inj j i b d e h he hj hm (zc ▸ q1) hs)
      exact ⟨c, q1, q2.step (Le.refl G) (upd_ne hc) q2.out, q3⟩
  · have f : ∀ j (d : PyData), (env.set i (some (.list es)))[j]? = some (some d) → ∃ d', env[j]? = some (some d') := fun j d h => by
      by_cases z : j = i
      · exact ⟨e, z ▸ he⟩
      · rw [List.getElem?_set_ne (Ne.symm z)] at h
        exact ⟨d, h⟩
    obtain ⟨d1, e1⟩ := f j d h
    obtain ⟨d2, e2⟩ := f k d' h'
    exact R.inj j k c d1 d2 e1 e2 hj hk q1 q2
  · obtain ⟨q1, q2, d, q3⟩ := R.iok p hp
    refine ⟨q1, q2, ?_⟩
    by_cases z : p.1 = i
    · exact ⟨_, by rw [z]; exact List.getElem?_set_self hl⟩
    · exact ⟨d, by rw [List.getElem?_set_ne (Ne.symm z)]; exact q3⟩
end
end Mir
/-! The mirror's expressions. -/
namespace Mir
open PySem PySem.Spec PyProof.Rows L2
section
variable {X : Cx} {B : Bd}

/-! ### names, constants, arguments, displays -/
def mVar (i : Nat) : M D := fun e => match e[i]? with
  | some (some d) => .ok d e
  | _ => .bad
theorem e_var (i : Nat) {x : Str} {pos : Pos} (hm : B.mu.getD i false = false := by rfl) (hN : X.N[i]? = some x := by rfl) (hv : Vis X.env.scope x := by first | exact Or.inl rfl | exact Or.inr (Or.inl rfl) | exact Or.inr (Or.inr rfl))
    (hd : (x == ("__debug__" : Str)) = false := by decide) (hcd : (x == ("__classdict__" : Str)) = false := by decide) : PE X (.Name x pos) (tE B (mVar i)) := by
  refine PE.imp (pe_var hN hv hd hcd) fun σ H Q ⟨G, env, R, g⟩ => ?_
  cases h : env[i]? with
  | none => simp only [mVar, h] at g; exact g.elim
  | some o =>
    cases o with
    | none => simp only [mVar, h] at g; exact g.elim
    | some d =>
      simp only [mVar, h] at g
      obtain ⟨v, hs, hd⟩ := R.imm i d h hm
      exact ⟨v, hs, g v H G (Le.refl G) R hd⟩
theorem e_c {e : Expr} {v : V} {d : D} (h : PE X e (tC v)) (hd : ∀ G, Dq B.K G v d) : PE X e (tE B (ret d)) := PE.imp h fun _ H _ ⟨G, _, R, g⟩ => g v H G (Le.refl G) R (hd G)
theorem e_int {i : Int} {j pos} : PE X (.Constant (.int i) j pos) (tE B (ret (.int i))) := e_c pe_int fun _ => .int i
theorem e_bl {b : Bool} {j pos} : PE X (.Constant (.bool b) j pos) (tE B (ret (.bool b))) := e_c pe_bl fun _ => .bl b
theorem e_non {j pos} : PE X (.Constant .none j pos) (tE B (ret .none)) := e_c pe_non fun _ => .non
theorem a_nil : PA X [] (tA B (ret [])) := PA.imp pa_nil fun _ H _ ⟨G, _, R, g⟩ => g [] H G (Le.refl G) R .nil
def mCons (f : M D) (g : M (List D)) : M (List D) := bnd f fun d => bnd g fun ds => ret (d :: ds)
theorem a_cons {e : Expr} {es : List Expr} {f : M D} {g : M (List D)} (he : PE X e (tE B f)) (hr : PA X es (tA B g)) (hs : starEach (e :: es) X.env = (false, eval e X.env) :: starEach es X.env := by rfl) : PA X (e :: es) (tA B (mCons f g)) :=
  PA.imp (pa_cons he hr hs) fun σ H Q ⟨G, env, R, gd⟩ => ⟨G, env, R, (good_bnd gd).imp fun d e1 k x H1 G1 l1 R1 r1 => ⟨G1, e1, R1, (good_bnd k).imp fun ds e2 k2 xs H2 G2 l2 R2 r2 =>
    k2 (x :: xs) H2 G2 (l1.trans l2) R2 (.cons (Dq.mono l2 _ _ r1) r2)⟩⟩
/-- a size within the line -/
def fits (n : Nat) : Bool := decide (n ≤ 100000)
theorem fits_le {n : Nat} (h : fits n = true) : n ≤ sizeLine := Nat.le_trans (of_decide_eq_true h) (by decide)
def mTup (g : M (List D)) : M D := bnd g fun ds => if fits ds.length = true then ret (.tuple ds) else bad
def mLst (g : M (List D)) : M D := bnd g fun ds => if fits ds.length = true then ret (.list ds) else bad
theorem good_if {α : Type} {c : Bool} {a : α} {e : ME} {k : α → ME → Prop} (g : Good B ((if c = true then ret a else bad : M α) e) k) : c = true ∧ k a e := by
  cases c with
  | true => exact ⟨rfl, g⟩
  | false => exact False.elim g
theorem e_tup {es : List Expr} {g : M (List D)} {x1 pos} (h : PA X es (tA B g)) : PE X (.Tuple es x1 pos) (tE B (mTup g)) :=
  PE.imp (pe_tup h) fun σ H Q ⟨G, env, R, gd⟩ => ⟨G, env, R, (good_bnd gd).imp fun ds e1 k xs H1 G1 l1 R1 r1 => by
    obtain ⟨hf, k⟩ := good_if k
    refine ⟨by rw [Mir.DqAll.len r1]; exact fits_le hf, fun p hp => ?_⟩
    have gp : G1 p = none := R1.gnd.sub.none hp
    refine k (.ref p) _ (upd G1 p (.tup xs)) (l1.trans (Le.new gp)) (R1.new hp fun ps z => by cases z) (.tup (.inl (.inl upd_same)) (DqAll.mono (Le.new gp) _ _ r1))⟩
/-- a new list, of one's own -/
theorem o_lst {es : List Expr} {g : M (List D)} {pos} (h : PA X es (tA B g)) : PE X (.List es pos) (tO B (mLst g)) :=
  PE.imp (pe_lst h) fun σ H Q ⟨G, env, R, gd⟩ => ⟨G, env, R, (good_bnd gd).imp fun ds e1 k xs H1 G1 l1 R1 r1 => by
    obtain ⟨hf, k⟩ := good_if k
    refine ⟨by rw [Mir.DqAll.len r1]; exact fits_le hf, fun p hp => ?_⟩
    exact k p _ G1 l1 (R1.laid hp) ⟨⟨xs, ds, rfl, upd_same, r1⟩, R1.gnd.sub.none hp⟩ (R1.fresh hp)⟩
/-- one's own list, held fast -/
theorem e_own {e : Expr} {f : M D} (h : PE X e (tO B f)) : PE X e (tE B f) :=
  PE.imp h fun σ H Q ⟨G, env, R, gd⟩ => ⟨G, env, R, gd.imp fun d e1 k b H1 G1 l1 R1 w f => by
    obtain ⟨G2, l2, R2, r2⟩ := R1.freeze w f
    exact k (.ref b) H1 G2 (l1.trans l2) R2 r2⟩
theorem e_lst {es : List Expr} {g : M (List D)} {pos} (h : PA X es (tA B g)) : PE X (.List es pos) (tE B (mLst g)) := e_own (o_lst h)

/-! ### operators -/
/-- what an operator's reading asks is given by a function of data -/
def OpS (B : Bd) (r : R2) (g : D → D → Option D) : Prop := ∀ (x y : V) (d1 d2 d : D) (H G : Hp) (Q : VK), Gnd B H G → Dq B.K G x d1 → Dq B.K G y d2 → g d1 d2 = some d →
  (∀ z, Dq B.K G z d → Q z H) → (∀ p o z, H p = none → (∀ ps, o ≠ .tbl ps) → Dq B.K (upd G p o) z d → Q z (upd H p o)) → r x y H Q
def mOp (g : D → D → Option D) (a b : M D) : M D := bnd a fun x => bnd b fun y => opt (g x y)
theorem good_opt {α : Type} {o : Option α} {e : ME} {k : α → ME → Prop} (g : Good B (opt o e) k) : ∃ a, o = some a ∧ k a e := by
  cases o with
  | none => exact False.elim g
  | some a => exact ⟨a, rfl, g⟩
theorem op_imp {r : R2} {g : D → D → Option D} {a b : M D} (hg : OpS B r g) : ∀ σ H Q, tE B (mOp g a b) σ H Q → tOp r (tE B a) (tE B b) σ H Q := fun σ H Q ⟨G, env, R, gd⟩ =>
  ⟨G, env, R, (good_bnd gd).imp fun d1 e1 k1 x H1 G1 l1 R1 r1 => ⟨G1, e1, R1, (good_bnd k1).imp fun d2 e2 k2 y H2 G2 l2 R2 r2 => by
    obtain ⟨d, hd, k⟩ := good_opt k2
    refine hg x y d1 d2 d H2 G2 Q R2.gnd (Dq.mono l2 _ _ r1) r2 hd (fun z hz => k z H2 G2 (l1.trans l2) R2 hz) fun p o z hp ho hz => ?_
    exact k z _ _ ((l1.trans l2).trans (Le.new (R2.gnd.sub.none hp))) (R2.new hp ho) hz⟩⟩
theorem e_op {a b : Expr} {op : Operator} {pos : Pos} {r : R2} {g : D → D → Option D} {f1 f2 : M D} (ho : OpR X (binaryOp op) r) (hg : OpS B r g) (ha : PE X a (tE B f1)) (hb : PE X b (tE B f2)) : PE X (.BinOp a op b pos) (tE B (mOp g f1 f2)) :=
  PE.imp (pe_op ho ha hb) (op_imp hg)
theorem e_cmp {a b : Expr} {op : CmpOp} {pos : Pos} {r : R2} {g : D → D → Option D} {f1 f2 : M D} (ho : OpR X (compareOp op) r) (hg : OpS B r g) (ha : PE X a (tE B f1)) (hb : PE X b (tE B f2)) (hm : behindInMarks op b = false) : PE X (.Compare a [op] [b] pos) (tE B (mOp g f1 f2)) :=
  PE.imp (pe_cmpR ho ha hb hm) (op_imp hg)
/-- two ints -/
def onI (C : Int → Int → Bool) (g : Int → Int → D) : D → D → Option D
  | .int i, .int j => if C i j = true then some (g i j) else none
  | _, _ => none
end
end Mir
/-! tuple * 1, tuple * 0. -/
namespace Mir
open PySem PySem.Spec PyProof.Rows L2
theorem tuple_mulS (l : Addr) (items : Array Value) (n : Nat) (dd : Option Addr) (sl : Array (Option Value)) (x : Int) (u : Tok) (c0 : (decide (x < -(2 ^ 63)) || decide (x ≥ 2 ^ 63)) = false) (c1 : (items.isEmpty || x == 1) = true) :
    Meets (Builtin.«tuple.__mul__» ⟨[.ref l, .int x u], []⟩) (fun _ R s => s.heap.get? l = some { cls := .type "tuple", dict := dd, data := .seq items n, slots := sl } ∧ R (.ok (.ret (Value.ref l))) s) :=
  .of_wp fun prog w A R s h => by
    obtain ⟨hp, g, d, tk, os⟩ := s
    obtain ⟨hl, h⟩ := h
    have f1 := AutoSeq1.idx_int
    wp_walk using wpAny_loadPart' hl
    repeat (first
      | (refine wpAny_ite_false (decide_eq_false (by rw [c0]; exact Bool.false_ne_true)) ?_; wp_walk using wpAny_loadPart' hl)
      | (refine wpAny_ite_true (decide_eq_true (by rw [c1])) ?_; wp_walk using wpAny_loadPart' hl))
    exact ⟨_, rfl, h⟩
theorem tuple_mul0 (l : Addr) (items : Array Value) (n : Nat) (dd : Option Addr) (sl : Array (Option Value)) (x : Int) (u : Tok) (c0 : (decide (x < -(2 ^ 63)) || decide (x ≥ 2 ^ 63)) = false) (c1 : (items.isEmpty || x == 1) = false) (c2 : (decide (x ≤ 0) || items.isEmpty) = true) :
    Meets (Builtin.«tuple.__mul__» ⟨[.ref l, .int x u], []⟩) (fun _ R s => s.heap.get? l = some { cls := .type "tuple", dict := dd, data := .seq items n, slots := sl } ∧
      R (.ok (.ret (Value.ref s.heap.objs.size))) { s with heap := s.heap.push { cls := Value.type "tuple", data := Data.seq #[] }, toks := s.toks }) :=
  .of_wp fun prog w A R s h => by
    obtain ⟨hp, g, d, tk, os⟩ := s
    obtain ⟨hl, h⟩ := h
    have f1 := AutoSeq1.idx_int
    wp_walk using wpAny_loadPart' hl
    repeat (first
      | (refine wpAny_ite_false (decide_eq_false (by rw [c0]; exact Bool.false_ne_true)) ?_; wp_walk using wpAny_loadPart' hl)
      | (refine wpAny_ite_false (decide_eq_false (by rw [c1]; exact Bool.false_ne_true)) ?_; wp_walk using wpAny_loadPart' hl)
      | (refine wpAny_ite_true (decide_eq_true (by rw [c2])) ?_; wp_walk using wpAny_loadPart' hl))
    exact ⟨_, rfl, h⟩
/-- the same object -/
def rRepS (K : PySem.W.Frag) : R2 := fun x y H Q => ∃ l k xs, x = .ref l ∧ y = .int k ∧ SqT K H l xs ∧ (xs = [] ∨ k = 1) ∧ -(2 ^ 63) ≤ k ∧ k < 2 ^ 63 ∧ Q (.ref l) H
/-- nothing -/
def rRep0 (K : PySem.W.Frag) : R2 := fun x y H Q => ∃ l k xs, x = .ref l ∧ y = .int k ∧ SqT K H l xs ∧ xs ≠ [] ∧ k ≤ 0 ∧ -(2 ^ 63) ≤ k ∧ ∀ p, H p = none → Q (.ref p) (upd H p (.tup []))
section
variable {X : Cx}
theorem op_repS : OpR X (binaryOp .Mult) (rRepS X.K) := by
  intro pins s σ H x y v u Q I rx ry h
  obtain ⟨l, k, xs, rfl, rfl, hT, hne, h1, h2, q⟩ := h
  cases rx
  obtain ⟨t, rfl⟩ := ry
  obtain ⟨its, r, ⟨⟨cls, dd, data, sl⟩, ho, hc, n, hd⟩, hs⟩ := I.tuple hT
  simp only at hc hd
  subst hc hd
  have c0 : (decide (k < -(2 ^ 63)) || decide (k ≥ 2 ^ 63)) = false := by
    rw [decide_eq_false (by omega), decide_eq_false (by omega)] <;> rfl
  have c1 : (its.toArray.isEmpty || k == 1) = true := by
    rcases hne with e | e
    · have : its = [] := List.eq_nil_of_length_eq_zero (by rw [← r.length, e]; rfl)
      rw [this] <;> rfl
    · rw [e]; simp
  refine wpAny_binaryOp_repeat_ref (T := "tuple") (U := "int") (by decide) ⟨_, ho, rfl⟩ (fun s' => typeIs_int s' k t) noFill_tuple_mul F.fills_int_mul F.slot_int_rmul repeat_tuple F.slot_int_index.lookup
    (call_meets F.slot_int_rmul (typeIs_int s k t) F.entry_int_rmul (F.args_int_rmul_2 _ _) (int_rmul_tuple k t l its.toArray n dd sl)
      ⟨ho, rfl, ⟨_, ho, rfl⟩, call_meets F.slot_tuple_mul ⟨_, ho, rfl⟩ F.entry_tuple_mul (F.args_tuple_mul_2 _ _) (tuple_mulS l its.toArray n dd sl k t c0 c1) ⟨ho, ?_⟩⟩)
  exact ⟨.ref l, H, I, rfl, q⟩
theorem op_rep0 : OpR X (binaryOp .Mult) (rRep0 X.K) := by
  intro pins s σ H x y v u Q I rx ry h
  obtain ⟨l, k, xs, rfl, rfl, hT, hne, h1, h2, q⟩ := h
  cases rx
  obtain ⟨t, rfl⟩ := ry
  obtain ⟨its, r, ⟨⟨cls, dd, data, sl⟩, ho, hc, n, hd⟩, hs⟩ := I.tuple hT
  simp only at hc hd
  subst hc hd
  have hn : its ≠ [] := fun e => hne (List.eq_nil_of_length_eq_zero (by rw [r.length, e]; rfl))
  have hi : its.toArray.isEmpty = false := by
    cases its with
    | nil => exact absurd rfl hn
    | cons a b => rfl
  have c0 : (decide (k < -(2 ^ 63)) || decide (k ≥ 2 ^ 63)) = false := by
    rw [decide_eq_false (by omega), decide_eq_false (by omega)] <;> rfl
  have c1 : (its.toArray.isEmpty || k == 1) = false := by
    rw [hi, Bool.false_or]
    exact beq_eq_false_iff_ne.mpr (by omega)
  have c2 : (decide (k ≤ 0) || its.toArray.isEmpty) = true := by
    rw [decide_eq_true h1] <;> rfl
  refine wpAny_binaryOp_repeat_ref (T := "tuple") (U := "int") (by decide) ⟨_, ho, rfl⟩ (fun s' => typeIs_int s' k t) noFill_tuple_mul F.fills_int_mul F.slot_int_rmul repeat_tuple F.slot_int_index.lookup
    (call_meets F.slot_int_rmul (typeIs_int s k t) F.entry_int_rmul (F.args_int_rmul_2 _ _) (int_rmul_tuple k t l its.toArray n dd sl)
      ⟨ho, rfl, ⟨_, ho, rfl⟩, call_meets F.slot_tuple_mul ⟨_, ho, rfl⟩ F.entry_tuple_mul (F.args_tuple_mul_2 _ _) (tuple_mul0 l its.toArray n dd sl k t c0 c1 c2) ⟨ho, ?_⟩⟩)
  refine ⟨.ref s.heap.objs.size, _, I.laid (t' := s.toks) (o := .tup []) (fun b ob q => Heap.get?_push_of_some _ q) (Nat.le_refl _) ?_, rfl, q _ (I.hok.fresh (Nat.le_refl _))⟩
  exact ⟨Nat.zero_le _, [], .nil, IsTup.new _ _⟩
end
end Mir
/-! The mirror's operators. -/
namespace Mir
open PySem PySem.Spec PyProof.Rows L2

/-! ### what the operators do to data -/
def small (n : Nat) : Bool := decide (n ≤ 1000)
/-- a number within 2 ^ 67000000 -/
def wide (i : Int) : Bool := decide (i.natAbs.log2 < 67000000)
/-- a bool as a number -/
def bI (b : Bool) : Int := if b = true then (1 : Int) else 0
def dAdd : D → D → Option D
  | .int i, .int j => some (.int (i + j))
  | .bool b, .int j => some (.int (bI b + j))
  | .tuple xs, .tuple ys => if fits (xs.length + ys.length) = true then some (.tuple (xs ++ ys)) else none
  | .list xs, .list ys => if fits (xs.length + ys.length) = true then some (.list (xs ++ ys)) else none
  | _, _ => none
def dSub : D → D → Option D
  | .int i, .int j => some (.int (i - j))
  | .bool b, .int j => some (.int (bI b - j))
  | .int i, .bool b => some (.int (i - bI b))
  | _, _ => none
def dMul : D → D → Option D
  | .int i, .int j => if wide i = true then (if wide j = true then some (.int (i * j)) else none) else none
  | .int i, .bool b => some (.int (i * bI b))
  | .tuple xs, .int k => if small xs.length = true then (if decide (k.natAbs ≤ 1000) = true then some (.tuple (List.replicate k.toNat xs).flatten) else none) else none
  | _, _ => none
def dMod : D → D → Option D
  | .int i, .int j => if decide (j ≠ 0) = true then some (.int (i.fmod j)) else none
  | _, _ => none
def dDiv : D → D → Option D
  | .int i, .int j => if decide (j ≠ 0) = true then (if decide (j.natAbs.log2 < 9000) = true then some (.int (i.fdiv j)) else none) else none
  | _, _ => none
def dPow : D → D → Option D
  | .int i, .int j => if decide (0 ≤ j) = true then (if decide (j ≤ 1000000) = true then (if decide (i.natAbs < 2 ^ 64) = true then some (.int (i ^ j.toNat)) else none) else none) else none
  | _, _ => none
def dCmp (p : Int → Int → Bool) : D → D → Option D
  | .int i, .int j => some (.bool (p i j))
  | _, _ => none
def dEq (neg : Bool) (d e : D) : Option D := if SeqAt.shaped d = true then (if SeqAt.shaped e = true then some (.bool (if neg = true then !PyData.eqv d e else PyData.eqv d e)) else none) else none
/-- d != e, e the empty tuple: told by d's length alone, whatever d holds -/
def dNe0 : D → D → Option D
  | .tuple ds, .tuple [] => some (.bool (!ds.isEmpty))
  | _, _ => none
def dNe (d e : D) : Option D := match dNe0 d e with
  | some r => some r
  | none => dEq true d e
def isNone : D → Bool
  | .none => true
  | _ => false
def dIs (neg : Bool) (d e : D) : Option D := if isNone e = true then some (.bool (if neg = true then !isNone d else isNone d)) else none

section
variable {X : Cx} {B : Bd}
/-- // by any number but 0 below 2 ^ 9000 -/
def CDivG (_ j : Int) : Prop := j ≠ 0 ∧ j.natAbs.log2 < 9000
/-- lists -/
def rCatR : R2 := fun x y H Q => ∃ l b xs zs, x = .ref l ∧ y = .ref b ∧ Rd H l (.lst xs) ∧ Rd H b (.lst zs) ∧ xs.length + zs.length ≤ sizeLine ∧ ∀ p, H p = none → Q (.ref p) (upd H p (.lst (xs ++ zs)))
theorem op_catR : OpR X (binaryOp .Add) rCatR := by
  intro pins s σ H x y v u Q I rx ry h
  obtain ⟨l, b, xs, zs, rfl, rfl, hH, hB, hz, q⟩ := h
  cases rx
  cases ry
  obtain ⟨z, its, n, r, e⟩ := hH.ok I.hok
  obtain ⟨z2, its2, n2, r2, e2⟩ := hB.ok I.hok
  have hl := r.length
  have hl2 := r2.length
  refine PySem.P.add_list e e2 ?_ (by rw [List.size_toArray, List.size_toArray]; omega)
  have ea : its.toArray ++ its2.toArray = (its ++ its2).toArray := by simp
  rw [ea]
  exact ⟨.ref _, _, I.lnew (t' := s.toks) (r.append r2) (by rw [List.length_append]; omega), rfl, q _ I.fresh⟩
theorem op_or {f : Value → Value → Sem Value} {r r' : R2} (h : OpR X f r) (h' : OpR X f r') : OpR X f (fun x y H Q => r x y H Q ∨ r' x y H Q) := OpR.or h h'

/-! ### bools as numbers -/
def rBI (g : Bool → Int → Int) : R2 := fun x y H Q => ∃ (b : Bool) (j : Int), x = .bl b ∧ y = .int j ∧ Q (.int (g b j)) H
def rIB (g : Int → Bool → Int) : R2 := fun x y H Q => ∃ (i : Int) (b : Bool), x = .int i ∧ y = .bl b ∧ Q (.int (g i b)) H
theorem op_bi {f : Value → Value → Sem Value} {g : Bool → Int → Int} (rule : ∀ (b : Bool) (j : Int) (u : Tok) (s : Shared) (Q E : Value → Shared → Prop), Q (.int (g b j) s.toks) { s with toks := s.toks + 1 } → wpAny (model X.prog X.w) X.A (f (.bool b) (.int j u)) Q E s) : OpR X f (rBI g) := by
  intro pins s σ H x y v u Q I rx ry h
  obtain ⟨b, j, rfl, rfl, q⟩ := h
  obtain ⟨t, rfl⟩ := ry
  cases rx
  exact rule b j t s _ _ ⟨.int (g b j), H, I.tok _, ⟨_, rfl⟩, q⟩
theorem op_ib {f : Value → Value → Sem Value} {g : Int → Bool → Int} (rule : ∀ (i : Int) (b : Bool) (u : Tok) (s : Shared) (Q E : Value → Shared → Prop), Q (.int (g i b) s.toks) { s with toks := s.toks + 1 } → wpAny (model X.prog X.w) X.A (f (.int i u) (.bool b)) Q E s) : OpR X f (rIB g) := by
  intro pins s σ H x y v u Q I rx ry h
  obtain ⟨i, b, rfl, rfl, q⟩ := h
  obtain ⟨t, rfl⟩ := rx
  cases ry
  exact rule i b t s _ _ ⟨.int (g i b), H, I.tok _, ⟨_, rfl⟩, q⟩
theorem op_addBI : OpR X (binaryOp .Add) (rBI fun b j => bI b + j) := op_bi fun _ _ _ _ _ _ q => IntBool.add_bool_int q
theorem op_subBI : OpR X (binaryOp .Sub) (rBI fun b j => bI b - j) := op_bi fun _ _ _ _ _ _ q => IntBool.sub_bool_int q
theorem op_subIB : OpR X (binaryOp .Sub) (rIB fun i b => i - bI b) := op_ib fun _ _ _ _ _ _ q => IntBool.sub_int_bool q
theorem op_mulIB : OpR X (binaryOp .Mult) (rIB fun i b => i * bI b) := op_ib fun _ _ _ _ _ _ q => IntBool.mul_int_bool q
def rSubD : R2 := fun x y H Q => rI0 (fun i j => .int (i - j)) x y H Q ∨ (rBI (fun b j => bI b - j) x y H Q ∨ rIB (fun i b => i - bI b) x y H Q)
theorem op_subD : OpR X (binaryOp .Sub) rSubD := op_or op_sub (op_or op_subBI op_subIB)
/-! ### their readings -/
def rAddD (K : PySem.W.Frag) : R2 := fun x y H Q => rI0 (fun i j => .int (i + j)) x y H Q ∨ (rCatA K x y H Q ∨ (rCatR x y H Q ∨ rBI (fun b j => bI b + j) x y H Q))
theorem op_addD : OpR X (binaryOp .Add) (rAddD X.K) := op_or op_add (op_or op_catA (op_or op_catR op_addBI))
theorem add_len {G : Hp} {K : PySem.W.Frag} {xs ys : List V} {ds es : List D} (a : DqAll K G xs ds) (b : DqAll K G ys es) (h : fits (ds.length + es.length) = true) : xs.length + ys.length ≤ sizeLine := by
  rw [Mir.DqAll.len a, Mir.DqAll.len b]
  exact fits_le h
theorem opS_add (hK : B.K = X.K) : OpS B (rAddD X.K) dAdd := by
  intro x y d1 d2 d H G Q gg r1 r2 e q qn
  rw [← hK]
  cases r1 with
  | int i =>
    cases r2 <;> simp only [dAdd, reduceCtorEq] at e
    cases e
    exact .inl ⟨_, _, rfl, rfl, q _ (.int _)⟩
  | @tup a xs ds ha hx =>
    cases r2 <;> simp only [dAdd, reduceCtorEq] at e
    rename_i b ys es hb hy
    by_cases hf : fits (ds.length + es.length) = true
    · rw [if_pos hf] at e
      cases e
      refine .inr (.inl ⟨a, b, xs, ys, rfl, rfl, gg.sub.st ha, gg.sub.st hb, add_len hx hy hf, fun z => ?_, fun z1 z2 => ?_, fun z1 z2 p hp => ?_⟩)
      · subst z
        cases hx
        exact q _ (.tup hb hy)
      · subst z2
        cases hy
        rw [List.append_nil] at q
        exact q _ (.tup ha hx)
      · exact qn p _ _ hp (fun ps z => by cases z) (.tup (.inl (.inl upd_same)) (DqAll.mono (Le.new (gg.sub.none hp)) _ _ (DqAll.app hx hy)))
    · rw [if_neg hf] at e
      cases e
  | @lst a xs ds ha hx =>
    cases r2 <;> simp only [dAdd, reduceCtorEq] at e
    rename_i b ys es hb hy
    by_cases hf : fits (ds.length + es.length) = true
    · rw [if_pos hf] at e
      cases e
      refine .inr (.inr (.inl ⟨a, b, xs, ys, rfl, rfl, gg.sub.rd ha, gg.sub.rd hb, add_len hx hy hf, fun p hp => ?_⟩))
      exact qn p _ _ hp (fun ps z => by cases z) (.lst (.inl upd_same) (DqAll.mono (Le.new (gg.sub.none hp)) _ _ (DqAll.app hx hy)))
    · rw [if_neg hf] at e
      cases e
  | non => simp only [dAdd, reduceCtorEq] at e
  | bl b =>
    cases r2 <;> simp only [dAdd, reduceCtorEq] at e
    cases e
    exact .inr (.inr (.inr ⟨_, _, rfl, rfl, q _ (.int _)⟩))
  | str b => simp only [dAdd, reduceCtorEq] at e
  | dic h1 => simp only [dAdd, reduceCtorEq] at e
theorem opS_sub : OpS B rSubD dSub := by
  intro x y d1 d2 d H G Q gg r1 r2 e q _
  cases r1 <;> cases r2 <;> simp only [dSub, reduceCtorEq] at e <;> cases e
  all_goals first
    | exact .inl ⟨_, _, rfl, rfl, q _ (.int _)⟩
    | exact .inr (.inl ⟨_, _, rfl, rfl, q _ (.int _)⟩)
    | exact .inr (.inr ⟨_, _, rfl, rfl, q _ (.int _)⟩)
/-- * of two numbers, each below 2 ^ 67000000 -/
def CMulP (i j : Int) : Prop := i.natAbs.log2 < 67000000 ∧ j.natAbs.log2 < 67000000
theorem bits_le (x : Int) : Builtin.Int.intBits x ≤ x.natAbs.log2 + 1 := by
  unfold Builtin.Int.intBits
  split <;> omega
theorem CMulP.fits {i j : Int} (h : CMulP i j) : IntMulOk i j := by
  have h1 := bits_le i
  have h2 := bits_le j
  obtain ⟨h3, h4⟩ := h
  refine fun z => ?_
  have z2 : Builtin.Int.intTooBig _ = true := (Bool.and_eq_true_iff.mp z).2
  have z3 : _ > ((bitsLine : Nat) : Int) := of_decide_eq_true z2
  have e : bitsLine = 134217728 := by decide
  omega
theorem op_mulP : OpR X (binaryOp .Mult) (rI CMulP fun i j => .int (i * j)) := opI fun _ _ _ _ _ _ _ hc q => mul_int q hc.fits
def rMulD (K : PySem.W.Frag) : R2 := fun x y H Q => rI CMulP (fun i j => .int (i * j)) x y H Q ∨ (rRepT K x y H Q ∨ (rRepS K x y H Q ∨ (rRep0 K x y H Q ∨ rIB (fun i b => i * bI b) x y H Q)))
theorem op_mulD : OpR X (binaryOp .Mult) (rMulD X.K) := op_or op_mulP (op_or op_repT (op_or op_repS (op_or op_rep0 op_mulIB)))
theorem wide_ok {i j : Int} (h1 : wide i = true) (h2 : wide j = true) : CMulP i j := ⟨of_decide_eq_true h1, of_decide_eq_true h2⟩
theorem opS_mul (hK : B.K = X.K) : OpS B (rMulD X.K) dMul := by
  intro x y d1 d2 d H G Q gg r1 r2 e q qn
  rw [← hK]
  cases r1 with
  | int i =>
    cases r2 with
    | int j =>
      simp only [dMul] at e
      by_cases h1 : wide i = true
      · by_cases h2 : wide j = true
        · rw [if_pos h1, if_pos h2] at e
          cases e
          exact .inl ⟨_, _, rfl, rfl, wide_ok h1 h2, q _ (.int _)⟩
        · rw [if_pos h1, if_neg h2] at e; cases e
      · rw [if_neg h1] at e; cases e
    | bl b =>
      simp only [dMul] at e
      cases e
      exact .inr (.inr (.inr (.inr ⟨_, _, rfl, rfl, q _ (.int _)⟩)))
    | non => simp only [dMul, reduceCtorEq] at e
    | str z => simp only [dMul, reduceCtorEq] at e
    | lst h1 h2 => simp only [dMul, reduceCtorEq] at e
    | tup h1 h2 => simp only [dMul, reduceCtorEq] at e
    | dic h1 => simp only [dMul, reduceCtorEq] at e
  | @tup a xs ds ha hx =>
    cases r2 <;> simp only [dMul, reduceCtorEq] at e
    rename_i k
    have rep : ∀ n : Nat, DqAll B.K G (List.replicate n xs).flatten (List.replicate n ds).flatten := fun n => by
      induction n with
      | zero => exact .nil
      | succ n ih =>
        rw [List.replicate_succ, List.replicate_succ, List.flatten_cons, List.flatten_cons]
        exact DqAll.app hx ih
    have hl := Mir.DqAll.len hx
    by_cases h4 : small ds.length = true
    · rw [if_pos h4] at e
      by_cases h3 : decide (k.natAbs ≤ 1000) = true
      · rw [if_pos h3] at e
        have h3 := of_decide_eq_true h3
        cases e
        by_cases hn : xs = []
        · have hd : ds = [] := List.eq_nil_of_length_eq_zero (by rw [← hl, hn]; rfl)
          refine .inr (.inr (.inl ⟨a, k, xs, rfl, rfl, gg.sub.st ha, .inl hn, by omega, by omega, q _ ?_⟩))
          have e2 : (List.replicate k.toNat ds).flatten = ds := by rw [hd]; simp
          rw [e2]
          exact .tup ha hx
        · by_cases h1 : k = 1
          · refine .inr (.inr (.inl ⟨a, k, xs, rfl, rfl, gg.sub.st ha, .inr h1, by omega, by omega, q _ ?_⟩))
            have e2 : (List.replicate k.toNat ds).flatten = ds := by rw [h1]; simp
            rw [e2]
            exact .tup ha hx
          · by_cases h0 : k ≤ 0
            · refine .inr (.inr (.inr (.inl ⟨a, k, xs, rfl, rfl, gg.sub.st ha, hn, h0, by omega, fun p hp => ?_⟩)))
              have e2 : (List.replicate k.toNat ds).flatten = [] := by
                have : k.toNat = 0 := by omega
                rw [this]; rfl
              rw [e2] at qn
              exact qn p _ _ hp (fun ps z => by cases z) (.tup (.inl (.inl upd_same)) .nil)
            · refine .inr (.inl ⟨a, k, xs, rfl, rfl, gg.sub.st ha, hn, by omega, by omega, by rw [hl]; exact of_decide_eq_true h4, fun p hp => ?_⟩)
              exact qn p _ _ hp (fun ps z => by cases z) (.tup (.inl (.inl upd_same)) (DqAll.mono (Le.new (gg.sub.none hp)) _ _ (rep _)))
      · rw [if_neg h3] at e; cases e
    · rw [if_neg h4] at e; cases e
  | non => simp only [dMul, reduceCtorEq] at e
  | bl b => simp only [dMul, reduceCtorEq] at e
  | str b => simp only [dMul, reduceCtorEq] at e
  | lst h1 h2 => simp only [dMul, reduceCtorEq] at e
  | dic h1 => simp only [dMul, reduceCtorEq] at e
theorem opS_mod : OpS B (rI (fun _ j => j ≠ 0) fun i j => .int (i.fmod j)) dMod := by
  intro x y d1 d2 d H G Q gg r1 r2 e q _
  cases r1 <;> cases r2 <;> simp only [dMod, reduceCtorEq] at e
  rename_i i j
  by_cases h : decide (j ≠ 0) = true
  · rw [if_pos h] at e
    cases e
    exact ⟨_, _, rfl, rfl, of_decide_eq_true h, q _ (.int _)⟩
  · rw [if_neg h] at e; cases e
theorem opS_pow : OpS B (rI CPow fun i j => .int (i ^ j.toNat)) dPow := by
  intro x y d1 d2 d H G Q gg r1 r2 e q _
  cases r1 <;> cases r2 <;> simp only [dPow, reduceCtorEq] at e
  rename_i i j
  by_cases h : decide (0 ≤ j) = true
  · by_cases h2 : decide (j ≤ 1000000) = true
    · by_cases h3 : decide (i.natAbs < 2 ^ 64) = true
      · rw [if_pos h, if_pos h2, if_pos h3] at e
        cases e
        exact ⟨_, _, rfl, rfl, ⟨of_decide_eq_true h, of_decide_eq_true h2, of_decide_eq_true h3⟩, q _ (.int _)⟩
      · rw [if_pos h, if_pos h2, if_neg h3] at e; cases e
    · rw [if_pos h, if_neg h2] at e; cases e
  · rw [if_neg h] at e; cases e
theorem opS_cmp {p : Int → Int → Bool} : OpS B (rI0 fun i j => .bl (p i j)) (dCmp p) := by
  intro x y d1 d2 d H G Q gg r1 r2 e q _
  cases r1 <;> cases r2 <;> simp only [dCmp, reduceCtorEq] at e
  cases e
  exact ⟨_, _, rfl, rfl, q _ (.bl _)⟩
theorem opS_eq (hK : B.K = X.K) : OpS B (rEqD X.K) (dEq false) := by
  intro x y d1 d2 d H G Q gg r1 r2 e q _
  rw [← hK]
  unfold dEq at e
  by_cases h : SeqAt.shaped d1 = true
  · by_cases h2 : SeqAt.shaped d2 = true
    · rw [if_pos h, if_pos h2] at e
      cases e
      exact ⟨d1, d2, Dq.dp d1 x (SeqAt.canLay_of_shaped h) (Dq.mono gg.sub d1 x r1), Dq.dp d2 y (SeqAt.canLay_of_shaped h2) (Dq.mono gg.sub d2 y r2), h, h2, q _ (.bl _)⟩
    · rw [if_pos h, if_neg h2] at e; cases e
  · rw [if_neg h] at e; cases e
theorem opS_ne (hK : B.K = X.K) : OpS B (rNeD X.K) (dEq true) := by
  intro x y d1 d2 d H G Q gg r1 r2 e q _
  rw [← hK]
  unfold dEq at e
  by_cases h : SeqAt.shaped d1 = true
  · by_cases h2 : SeqAt.shaped d2 = true
    · rw [if_pos h, if_pos h2] at e
      cases e
      exact ⟨d1, d2, Dq.dp d1 x (SeqAt.canLay_of_shaped h) (Dq.mono gg.sub d1 x r1), Dq.dp d2 y (SeqAt.canLay_of_shaped h2) (Dq.mono gg.sub d2 y r2), h, h2, q _ (.bl _)⟩
    · rw [if_pos h, if_neg h2] at e; cases e
  · rw [if_neg h] at e; cases e
def rNe0 (K : PySem.W.Frag) : R2 := fun x y H Q => ∃ (a b : Addr) (xs : List V), x = .ref a ∧ y = .ref b ∧ SqT K H a xs ∧ SqT K H b [] ∧ Q (.bl (!xs.isEmpty)) H
theorem op_ne0 (hu : X.A.units + 64 < cLine) : OpR X (compareOp .NotEq) (rNe0 X.K) := by
  intro pins s σ H x y v u Q I rx ry h
  obtain ⟨a, b, xs, rfl, rfl, ha, hb, q⟩ := h
  cases rx
  cases ry
  obtain ⟨its, rv, ht, _⟩ := I.tuple ha
  obtain ⟨its2, rv2, ht2, _⟩ := I.tuple hb
  have e2 : its2 = [] := by
    cases rv2
    rfl
  subst e2
  have e3 : xs.isEmpty = its.isEmpty := by
    cases rv <;> rfl
  refine PySem.SeqAt.RcNeAt.tuples (e := fun _ => true) ht ht2 (by omega) (fun j h1 h2 => absurd h2 (Nat.not_lt_zero j)) X.prog X.w X.xe _ ?_
  have e4 : (!((List.range (min its.toArray.size ([] : List Value).toArray.size)).all (fun _ => true) && its.toArray.size == ([] : List Value).toArray.size)) = !xs.isEmpty := by
    rw [e3]
    cases its <;> simp
  rw [e4]
  exact ⟨.bl _, H, I, rfl, q⟩
theorem op_neE (hu : X.A.units + 64 < cLine) : OpR X (compareOp .NotEq) (fun x y H Q => rNe0 X.K x y H Q ∨ rNeD X.K x y H Q) := op_or (op_ne0 hu) (op_neD hu)
theorem opS_neE (hK : B.K = X.K) : OpS B (fun x y H Q => rNe0 X.K x y H Q ∨ rNeD X.K x y H Q) dNe := by
  intro x y d1 d2 d H G Q gg r1 r2 e q qn
  unfold dNe at e
  cases h0 : dNe0 d1 d2 with
  | none =>
    rw [h0] at e
    exact .inr (opS_ne hK _ _ _ _ _ _ _ _ gg r1 r2 e q qn)
  | some r =>
    rw [h0] at e
    cases e
    refine .inl ?_
    rw [← hK]
    cases r1 with
    | @tup a xs ds ha hx =>
      cases r2 with
      | @tup b ys es hb hy =>
        cases hy with
        | cons p1 p2 => cases h0
        | nil =>
          have z : some (PyData.bool (!ds.isEmpty)) = some d := h0
          cases z
          have e3 : xs.isEmpty = ds.isEmpty := by
            cases hx <;> rfl
          exact ⟨a, b, xs, rfl, rfl, gg.sub.st ha, gg.sub.st hb, q _ (by rw [e3]; exact .bl _)⟩
      | _ => cases h0
    | _ => cases r2 <;> cases h0
theorem isNone_v {K : PySem.W.Frag} {G : Hp} {x : V} {d : D} (r : Dq K G x d) : isNone d = decide (x = .non) := by
  cases r with
  | non => exact (decide_eq_true rfl).symm
  | bl b => exact (decide_eq_false (fun z => by cases z)).symm
  | int b => exact (decide_eq_false (fun z => by cases z)).symm
  | str b => exact (decide_eq_false (fun z => by cases z)).symm
  | lst h1 h2 => exact (decide_eq_false (fun z => by cases z)).symm
  | tup h1 h2 => exact (decide_eq_false (fun z => by cases z)).symm
  | dic h1 => exact (decide_eq_false (fun z => by cases z)).symm
theorem opS_is : OpS B (fun x y H Q => y = .non ∧ Q (.bl (decide (x = .non))) H) (dIs false) := by
  intro x y d1 d2 d H G Q gg r1 r2 e q _
  unfold dIs at e
  by_cases h : isNone d2 = true
  · rw [if_pos h] at e
    cases e
    refine ⟨of_decide_eq_true ((isNone_v r2).symm.trans h), ?_⟩
    rw [← isNone_v r1]
    exact q _ (.bl _)
  · rw [if_neg h] at e; cases e
theorem opS_isnt : OpS B (fun x y H Q => y = .non ∧ Q (.bl (!decide (x = .non))) H) (dIs true) := by
  intro x y d1 d2 d H G Q gg r1 r2 e q _
  unfold dIs at e
  by_cases h : isNone d2 = true
  · rw [if_pos h] at e
    cases e
    refine ⟨of_decide_eq_true ((isNone_v r2).symm.trans h), ?_⟩
    rw [← isNone_v r1]
    exact q _ (.bl _)
  · rw [if_neg h] at e; cases e

variable {a b : Expr} {pos : Pos} {f1 f2 : M D}
theorem e_add (hK : B.K = X.K) (ha : PE X a (tE B f1)) (hb : PE X b (tE B f2)) : PE X (.BinOp a .Add b pos) (tE B (mOp dAdd f1 f2)) := e_op op_addD (opS_add hK) ha hb
theorem e_sub (ha : PE X a (tE B f1)) (hb : PE X b (tE B f2)) : PE X (.BinOp a .Sub b pos) (tE B (mOp dSub f1 f2)) := e_op op_subD opS_sub ha hb
theorem e_mul (hK : B.K = X.K) (ha : PE X a (tE B f1)) (hb : PE X b (tE B f2)) : PE X (.BinOp a .Mult b pos) (tE B (mOp dMul f1 f2)) := e_op op_mulD (opS_mul hK) ha hb
theorem e_mod (ha : PE X a (tE B f1)) (hb : PE X b (tE B f2)) : PE X (.BinOp a .Mod b pos) (tE B (mOp dMod f1 f2)) := e_op op_modN opS_mod ha hb
theorem e_pow (ha : PE X a (tE B f1)) (hb : PE X b (tE B f2)) : PE X (.BinOp a .Pow b pos) (tE B (mOp dPow f1 f2)) := e_op op_pow opS_pow ha hb
abbrev pLt : Int → Int → Bool := fun i j => decide (i < j)
abbrev pLe : Int → Int → Bool := fun i j => decide (i ≤ j)
abbrev pGt : Int → Int → Bool := fun i j => decide (j < i)
abbrev pGe : Int → Int → Bool := fun i j => decide (j ≤ i)
theorem e_gt (ha : PE X a (tE B f1)) (hb : PE X b (tE B f2)) : PE X (.Compare a [.Gt] [b] pos) (tE B (mOp (dCmp pGt) f1 f2)) := e_cmp op_gt opS_cmp ha hb (nomark _)
theorem e_eq (hK : B.K = X.K) (hu : X.A.units + 64 < cLine) (ha : PE X a (tE B f1)) (hb : PE X b (tE B f2)) : PE X (.Compare a [.Eq] [b] pos) (tE B (mOp (dEq false) f1 f2)) := e_cmp (op_eqD hu) (opS_eq hK) ha hb (nomark _)
theorem e_is (ha : PE X a (tE B f1)) (hb : PE X b (tE B f2)) : PE X (.Compare a [.Is] [b] pos) (tE B (mOp (dIs false) f1 f2)) := e_cmp op_isN opS_is ha hb (nomark _)
/-- a < b < c -/
def mChain (g g' : D → D → Option D) (a b c : M D) : M D := bnd a fun x => bnd b fun y => bnd (opt (g x y)) fun z => match z with
  | .bool true => bnd c fun w => opt (g' y w)
  | .bool false => ret (.bool false)
  | _ => bad
/-- an operator that lays nothing and tells a bool -/
def OpB (B : Bd) (r : R2) (g : D → D → Option D) : Prop := ∀ (x y : V) (d1 d2 d : D) (H G : Hp) (Q : VK), Gnd B H G → Dq B.K G x d1 → Dq B.K G y d2 → g d1 d2 = some d → ∃ k, d = .bool k ∧ (Q (.bl k) H → r x y H Q)
theorem opB_cmp {p : Int → Int → Bool} : OpB B (rI0 fun i j => .bl (p i j)) (dCmp p) := by
  intro x y d1 d2 d H G Q gg r1 r2 e
  cases r1 <;> cases r2 <;> simp only [dCmp, reduceCtorEq] at e
  cases e
  exact ⟨_, rfl, fun q => ⟨_, _, rfl, rfl, q⟩⟩
theorem e_chain {c : Expr} {op op' : CmpOp} {p p' : Int → Int → Bool} {f3 : M D} (ho : OpR X (compareOp op) (rI0 fun i j => .bl (p i j))) (ho' : OpR X (compareOp op') (rI0 fun i j => .bl (p' i j))) (ha : PE X a (tE B f1)) (hb : PE X b (tE B f2)) (hc : PE X c (tE B f3))
    (hm : lastMarks [op, op'] [b, c] = false := by with_unfolding_all rfl) : PE X (.Compare a [op, op'] [b, c] pos) (tE B (mChain (dCmp p) (dCmp p') f1 f2 f3)) :=
  PE.imp (pe_chain ho ho' ha hb hc hm) fun σ H Q ⟨G, env, R, gd⟩ => ⟨G, env, R, (good_bnd gd).imp fun d1 e1 k1 x H1 G1 l1 R1 r1 => ⟨G1, e1, R1, (good_bnd k1).imp fun d2 e2 k2 y H2 G2 l2 R2 r2 => by
    obtain ⟨d, hd, k⟩ := good_opt (good_bnd k2)
    obtain ⟨b, hb, hq⟩ := opB_cmp (B := B) x y d1 d2 d H2 G2 _ R2.gnd (Dq.mono l2 _ _ r1) r2 hd
    subst hb
    refine hq ⟨b, rfl, ?_⟩
    cases b with
    | false =>
      rw [if_neg Bool.false_ne_true]
      exact k (.bl false) H2 G2 (l1.trans l2) R2 (.bl false)
    | true =>
      rw [if_pos rfl]
      refine ⟨G2, e2, R2, (good_bnd k).imp fun d3 e3 k3 w H3 G3 l3 R3 r3 => ?_⟩
      obtain ⟨d', hd', k'⟩ := good_opt k3
      exact (opS_cmp (B := B)) y w d2 d3 d' H3 G3 Q R3.gnd (Dq.mono l3 _ _ r2) r3 hd' (fun z hz => k' z H3 G3 ((l1.trans l2).trans l3) R3 hz) fun p o z hp ho hz =>
        k' z _ _ (((l1.trans l2).trans l3).trans (Le.new (R3.gnd.sub.none hp))) (R3.new hp ho) hz⟩⟩
end
end Mir
/-! The mirror's tests, subscripts, built-ins. -/
namespace Mir
open PySem PySem.Spec PyProof.Rows L2

/-! ### truth -/
def dTruth : D → Option Bool
  | .none => some false
  | .bool b => some b
  | .int i => some (i != 0)
  | .str s => if fits s.length = true then some ((s.length : Int) != 0) else none
  | .list xs => some (!xs.isEmpty)
  | .tuple xs => some (!xs.isEmpty)
  | .dict _ => none
def mTruth (f : M D) : M Bool := bnd f fun d => opt (dTruth d)
def asBool : D → Option Bool
  | .bool b => some b
  | _ => none
def mB (f : M D) : M Bool := bnd f fun d => opt (asBool d)
def mAnd (a b : M Bool) : M Bool := bnd a fun c => if c = true then b else ret false
def mOr (a b : M Bool) : M Bool := bnd a fun c => if c = true then ret true else b
def mNot (a : M Bool) : M Bool := bnd a fun c => ret (!c)
def mIf {α : Type} (c : M Bool) (a b : M α) : M α := bnd c fun k => if k = true then a else b
/-- a test's answer as a value -/
def mV (a : M Bool) : M D := bnd a fun c => ret (.bool c)
section
variable {X : Cx} {B : Bd} {K : PySem.W.Frag} {G : Hp}
theorem DqAll.emp {xs : List V} {ds : List D} (h : DqAll K G xs ds) : ds.isEmpty = xs.isEmpty := by
  cases h <;> rfl
theorem tru_of {H : Hp} {x : V} {d : D} {k : Bool} (g : Le G H) (r : Dq K G x d) (h : dTruth d = some k) : TruV K x H k := by
  cases r with
  | non => simp only [dTruth, Option.some.injEq] at h; exact h.symm
  | bl b => simp only [dTruth, Option.some.injEq] at h; exact h.symm
  | int i => simp only [dTruth, Option.some.injEq] at h; exact h.symm
  | str s =>
    simp only [dTruth] at h
    by_cases hf : fits s.length = true
    · rw [if_pos hf] at h
      exact ⟨fits_le hf, (Option.some.inj h).symm⟩
    · rw [if_neg hf] at h; cases h
  | lst ha hx =>
    simp only [dTruth, Option.some.injEq] at h
    exact .inl ⟨_, .inl (g.rd ha), by rw [← h, DqAll.emp hx]⟩
  | tup ha hx =>
    simp only [dTruth, Option.some.injEq] at h
    exact .inr (.inl ⟨_, g.st ha, by rw [← h, DqAll.emp hx]⟩)
  | dic h1 => simp only [dTruth, reduceCtorEq] at h
variable {e a b c : Expr} {pos : Pos} {f f1 f2 f3 : M D} {t t1 t2 : M Bool} {rest : List Expr}
theorem t_truth (hK : B.K = X.K) (h : PE X e (tE B f)) (he : ∀ whole, isTrue e X.env whole = (do let v ← whole; standAt e.pos; holding [v] (truthy v)) := by intro _; rfl) : PT X e (tT B (mTruth f)) :=
  PT.imp (pt_truth h he) fun σ H Q ⟨G, env, R, gd⟩ => ⟨G, env, R, (good_bnd gd).imp fun d e1 k x H1 G1 l1 R1 r1 => by
    obtain ⟨b, hb, k⟩ := good_opt k
    rw [← hK]
    exact ⟨b, tru_of R1.gnd.sub r1 hb, k H1 G1 l1 R1⟩⟩
theorem asBool_v {x : V} {d : D} {k : Bool} (r : Dq K G x d) (h : asBool d = some k) : x = .bl k := by
  cases r <;> simp only [asBool, reduceCtorEq] at h
  cases h
  rfl
theorem b_imp : ∀ (σ : L2.St) (H : Hp) (Q : Bool → Hp → Prop), tT B (mB f) σ H Q → tE B f σ H fun x H1 => ∃ k, x = .bl k ∧ Q k H1 := fun σ H Q ⟨G, env, R, gd⟩ =>
  ⟨G, env, R, (good_bnd gd).imp fun d e1 k x H1 G1 l1 R1 r1 => by
    obtain ⟨b, hb, k⟩ := good_opt k
    exact ⟨b, asBool_v r1 hb, k H1 G1 l1 R1⟩⟩
/-- a comparison as a test -/
theorem t_cmp {op : CmpOp} {r : R2} {g : D → D → Option D} (ho : OpR X (compareOp op) r) (hg : OpS B r g) (ha : PE X a (tE B f1)) (hb : PE X b (tE B f2)) (hm : behindInMarks op b = false) : PT X (.Compare a [op] [b] pos) (tT B (mB (mOp g f1 f2))) :=
  PT.imp (pt_cmpR ho ha hb hm) fun σ H Q q => op_imp hg σ H _ (b_imp σ H Q q)
theorem t_and1 (ha : PT X a (tT B t)) : PW X (.BoolOp .And [a] pos) (tT B t) := pw_and1 ha
theorem t_or1 (ha : PT X a (tT B t)) : PW X (.BoolOp .Or [a] pos) (tT B t) := pw_or1 ha
theorem PW.imp' {e : Expr} {t t' : TT} (h : PW X e t) (i : ∀ σ H Q, t' σ H Q → t σ H Q) : PW X e t' := ⟨fun wh pins s σ H Q I q => h.run wh pins s σ H Q I (i σ H Q q)⟩
theorem t_and (ha : PT X a (tT B t1)) (hb : PW X (.BoolOp .And (b :: rest) pos) (tT B t2)) : PW X (.BoolOp .And (a :: b :: rest) pos) (tT B (mAnd t1 t2)) :=
  PW.imp' (pw_and ha hb) fun σ H Q ⟨G, env, R, gd⟩ => ⟨G, env, R, (good_bnd gd).imp fun c e1 k H1 G1 l1 R1 => by
    cases c with
    | true =>
      rw [if_pos rfl]
      exact ⟨G1, e1, R1, Good.imp k fun d e2 k2 H2 G2 l2 R2 => k2 H2 G2 (l1.trans l2) R2⟩
    | false =>
      rw [if_neg Bool.false_ne_true]
      exact k H1 G1 l1 R1⟩
theorem t_or (ha : PT X a (tT B t1)) (hb : PW X (.BoolOp .Or (b :: rest) pos) (tT B t2)) : PW X (.BoolOp .Or (a :: b :: rest) pos) (tT B (mOr t1 t2)) :=
  PW.imp' (pw_or ha hb) fun σ H Q ⟨G, env, R, gd⟩ => ⟨G, env, R, (good_bnd gd).imp fun c e1 k H1 G1 l1 R1 => by
    cases c with
    | true =>
      rw [if_pos rfl]
      exact k H1 G1 l1 R1
    | false =>
      rw [if_neg Bool.false_ne_true]
      exact ⟨G1, e1, R1, Good.imp k fun d e2 k2 H2 G2 l2 R2 => k2 H2 G2 (l1.trans l2) R2⟩⟩
theorem t_not (ha : PT X a (tT B t)) : PT X (.UnaryOp .Not a pos) (tT B (mNot t)) :=
  PT.imp (pt_not ha) fun σ H Q ⟨G, env, R, gd⟩ => ⟨G, env, R, (good_bnd gd).imp fun c e1 k H1 G1 l1 R1 => k H1 G1 l1 R1⟩
theorem e_if (hc : PT X c (tT B t)) (ha : PE X a (tE B f1)) (hb : PE X b (tE B f2)) : PE X (.IfExp c a b pos) (tE B (mIf t f1 f2)) :=
  PE.imp (pe_ifExp hc ha hb) fun σ H Q ⟨G, env, R, gd⟩ => ⟨G, env, R, (good_bnd gd).imp fun c e1 k H1 G1 l1 R1 => by
    cases c with
    | true =>
      rw [if_pos rfl]
      exact ⟨G1, e1, R1, Good.imp k fun d e2 k2 x H2 G2 l2 R2 r2 => k2 x H2 G2 (l1.trans l2) R2 r2⟩
    | false =>
      rw [if_neg Bool.false_ne_true]
      exact ⟨G1, e1, R1, Good.imp k fun d e2 k2 x H2 G2 l2 R2 r2 => k2 x H2 G2 (l1.trans l2) R2 r2⟩⟩
/-- and, or, not as values (bools) -/
def mAndV (f g : M D) : M D := bnd (mB f) fun c => if c = true then g else ret (.bool false)
def mOrV (f g : M D) : M D := bnd (mB f) fun c => if c = true then ret (.bool true) else g
theorem e_one {op : BoolOp} (h : PE X a (tE B f)) : PE X (.BoolOp op [a] pos) (tE B f) := pe_one h
theorem e_andV (ha : PE X a (tE B f1)) (hb : PE X (.BoolOp .And (b :: rest) pos) (tE B f2)) : PE X (.BoolOp .And (a :: b :: rest) pos) (tE B (mAndV f1 f2)) :=
  PE.imp (pe_and ha hb) fun σ H Q ⟨G, env, R, gd⟩ => ⟨G, env, R, (good_bnd (good_bnd gd)).imp fun d e1 k x H1 G1 l1 R1 r1 => by
    obtain ⟨c, hc, k⟩ := good_opt k
    refine ⟨c, asBool_v r1 hc, ?_⟩
    cases c with
    | true =>
      rw [if_pos rfl]
      exact ⟨G1, e1, R1, Good.imp k fun d e2 k2 x H2 G2 l2 R2 r2 => k2 x H2 G2 (l1.trans l2) R2 r2⟩
    | false =>
      rw [if_neg Bool.false_ne_true]
      exact k (.bl false) H1 G1 l1 R1 (.bl false)⟩
def mNotV (f : M D) : M D := bnd f fun d => bnd (opt (dTruth d)) fun c => ret (.bool (!c))
theorem e_notV (hK : B.K = X.K) (ha : PE X a (tE B f)) : PE X (.UnaryOp .Not a pos) (tE B (mNotV f)) :=
  PE.imp (pe_notT ha) fun σ H Q ⟨G, env, R, gd⟩ => ⟨G, env, R, (good_bnd gd).imp fun d e1 k x H1 G1 l1 R1 r1 => by
    obtain ⟨c, hc, k⟩ := good_opt (good_bnd k)
    rw [← hK]
    exact ⟨c, tru_of R1.gnd.sub r1 hc, k (.bl (!c)) H1 G1 l1 R1 (.bl _)⟩⟩
def mNeg (f : M D) : M D := bnd f fun d => match d with
  | .int i => ret (.int (-i))
  | _ => bad
theorem e_neg (ha : PE X a (tE B f)) : PE X (.UnaryOp .USub a pos) (tE B (mNeg f)) :=
  PE.imp (pe_un un_neg ha) fun σ H Q ⟨G, env, R, gd⟩ => ⟨G, env, R, (good_bnd gd).imp fun d e1 k x H1 G1 l1 R1 r1 => by
    cases r1 <;> first
      | exact False.elim k
      | exact ⟨_, rfl, k _ H1 G1 l1 R1 (.int _)⟩⟩

/-! ### subscripts -/
def dIx : D → D → Option D
  | .list xs, .int i => atI xs i
  | .tuple xs, .int i => atI xs i
  | _, _ => none
theorem atI_dq {xs : List V} {ds : List D} {i : Int} {d : D} (h : DqAll K G xs ds) (e : atI ds i = some d) : ∃ x, atI xs i = some x ∧ Dq K G x d := by
  unfold atI at e ⊢
  rw [Mir.DqAll.len h]
  cases hj : ixN ds.length i with
  | none => rw [hj] at e; cases e
  | some j =>
    rw [hj] at e
    exact Mir.DqAll.at h e
def rIxD (K : PySem.W.Frag) : R2 := fun x y H Q => rIxL K x y H Q ∨ rIxT K x y H Q
theorem ix_D : IxR X (rIxD X.K) := ix_list.or ix_tup
theorem opS_ix (hK : B.K = X.K) : OpS B (rIxD X.K) dIx := by
  intro x y d1 d2 d H G Q gg r1 r2 e q _
  rw [← hK]
  cases r1 <;> cases r2 <;> simp only [dIx, reduceCtorEq] at e
  · rename_i p xs ds hx ha i
    obtain ⟨z, h1, h2⟩ := atI_dq ha e
    exact .inl ⟨p, xs, i, z, rfl, rfl, .inl (gg.sub.rd hx), h1, q z h2⟩
  · rename_i p xs ds hx ha i
    obtain ⟨z, h1, h2⟩ := atI_dq ha e
    exact .inr ⟨p, xs, i, z, rfl, rfl, gg.sub.st hx, h1, q z h2⟩
theorem e_ix (hK : B.K = X.K) (ha : PE X a (tE B f1)) (hb : PE X b (tE B f2)) (hs : PlainIx b := by exact fun _ _ => rfl) : PE X (.Subscript a b pos) (tE B (mOp dIx f1 f2)) := PE.imp (pe_ix ix_D ha hb hs) (op_imp (opS_ix hK))

/-! ### slices -/
def mPart (f : Option (M D)) : M (Option Int) := match f with
  | none => ret none
  | some f => bnd f fun d => match d with
    | .int i => ret (some i)
    | _ => bad
def tP (B : Bd) (f : M (Option Int)) : TO := fun σ H Q => ∃ G env, Rel B σ H G env ∧ Good B (f env) fun o env' => ∀ H' G', Le G G' → Rel B σ H' G' env' → Q o H'
theorem PO.imp' {e : Option Expr} {t t' : TO} (h : PO X e t) (i : ∀ σ H Q, t' σ H Q → t σ H Q) : PO X e t' := ⟨fun pins s σ H Q I q => h.run pins s σ H Q I (i σ H Q q)⟩
theorem p_none : PO X none (tP B (mPart none)) := PO.imp' po_none fun _ H _ ⟨G, _, R, g⟩ => g H G (Le.refl G) R
theorem p_some (h : PE X e (tE B f)) : PO X (some e) (tP B (mPart (some f))) :=
  PO.imp' (po_some h) fun σ H Q ⟨G, env, R, gd⟩ => ⟨G, env, R, (good_bnd gd).imp fun d e1 k x H1 G1 l1 R1 r1 => by
    cases r1 <;> first
      | exact False.elim k
      | exact ⟨_, rfl, k H1 G1 l1 R1⟩⟩
def cutD (xs : List D) (lo hi : Option Int) : List D := (xs.drop (HT.sIx xs.length 0 lo)).take (HT.sIx xs.length xs.length hi - HT.sIx xs.length 0 lo)
def dSl (lo hi : Option Int) : D → Option D
  | .list xs => some (.list (cutD xs lo hi))
  | .tuple xs => some (.tuple (cutD xs lo hi))
  | _ => none
def mSl (f : M D) (lo hi : M (Option Int)) : M D := bnd f fun d => bnd lo fun l => bnd hi fun h => opt (dSl l h d)
theorem cut_dq {xs : List V} {ds : List D} {lo hi : Option Int} (h : DqAll K G xs ds) : DqAll K G (cutV xs lo hi) (cutD ds lo hi) := by
  unfold cutV cutD
  rw [Mir.DqAll.len h]
  exact DqAll.take _ (DqAll.drop _ h)
theorem cut_whole {ds : List D} {lo hi : Option Int} (h : HT.sIx ds.length 0 lo = 0 ∧ HT.sIx ds.length ds.length hi = ds.length) : cutD ds lo hi = ds := by
  unfold cutD
  rw [h.1, h.2]
  exact List.take_length
def rSlD (K : PySem.W.Frag) : V → Option Int → Option Int → Hp → VK → Prop := fun x lo hi H Q => rSlL K x lo hi H Q ∨ rSlA K x lo hi H Q
theorem sl_D : SlR X (rSlD X.K) := by
  intro pins s σ H x v vl vu lo hi sl Q I rx hs pl pu h
  rcases h with h | h
  · exact sl_list pins s σ H x v vl vu lo hi sl Q I rx hs pl pu h
  · exact sl_tupA pins s σ H x v vl vu lo hi sl Q I rx hs pl pu h
theorem e_sl {lo hi : Option Expr} {p2 : Pos} {l h : M (Option Int)} (hK : B.K = X.K) (ha : PE X a (tE B f)) (hl : PO X lo (tP B l)) (hh : PO X hi (tP B h)) : PE X (.Subscript a (.Slice lo hi none p2) pos) (tE B (mSl f l h)) :=
  PE.imp (pe_slice sl_D ha hl hh) fun σ H Q ⟨G, env, R, gd⟩ => ⟨G, env, R, (good_bnd gd).imp fun d e1 k1 x H1 G1 l1 R1 r1 => ⟨G1, e1, R1, (good_bnd k1).imp fun lv e2 k2 H2 G2 l2 R2 => ⟨G2, e2, R2, (good_bnd k2).imp fun hv e3 k3 H3 G3 l3 R3 => by
    obtain ⟨d', hd, k⟩ := good_opt k3
    have r3 := Dq.mono (l2.trans l3) d x r1
    have ll := (l1.trans l2).trans l3
    rw [← hK]
    cases r3 <;> simp only [dSl, reduceCtorEq] at hd
    · rename_i p xs ds hx ha
      cases hd
      refine .inl ⟨p, xs, rfl, .inl (R3.gnd.sub.rd hx), fun q hq => ?_⟩
      have gq := R3.gnd.sub.none hq
      exact k _ _ _ (ll.trans (Le.new gq)) (R3.new hq fun ps z => by cases z) (.lst (.inl upd_same) (DqAll.mono (Le.new gq) _ _ (cut_dq ha)))
    · rename_i p xs ds hx ha
      cases hd
      refine .inr ⟨p, xs, rfl, R3.gnd.sub.st hx, fun hw => ?_, fun _ q hq => ?_⟩
      · rw [Mir.DqAll.len ha] at hw
        refine k _ H3 G3 ll R3 ?_
        rw [cut_whole hw]
        exact .tup hx ha
      · have gq := R3.gnd.sub.none hq
        exact k _ _ _ (ll.trans (Le.new gq)) (R3.new hq fun ps z => by cases z) (.tup (.inl (.inl upd_same)) (DqAll.mono (Le.new gq) _ _ (cut_dq ha)))⟩⟩⟩

/-! ### built-ins -/
/-- what a built-in's reading asks is given by a function of data -/
def CaS (B : Bd) (r : List V → Hp → VK → Prop) (g : List D → Option D) : Prop := ∀ (xs : List V) (ds : List D) (d : D) (H G : Hp) (Q : VK), Gnd B H G → DqAll B.K G xs ds → g ds = some d →
  (∀ z, Dq B.K G z d → Q z H) → (∀ p o z, H p = none → (∀ ps, o ≠ .tbl ps) → Dq B.K (upd G p o) z d → Q z (upd H p o)) → r xs H Q
def mCa (g : List D → Option D) (a : M (List D)) : M D := bnd a fun xs => opt (g xs)
variable {es : List Expr} {ga : M (List D)} {x id T : String} {n : Str} {p : Pos} {r : List V → Hp → VK → Prop} {g : List D → Option D} {ta : TA}
theorem ca_imp (hg : CaS B r g) : ∀ σ H Q, tE B (mCa g ga) σ H Q → tCB r (tA B ga) σ H Q := fun σ H Q ⟨G, env, R, gd⟩ =>
  ⟨G, env, R, (good_bnd gd).imp fun ds e1 k1 xs H1 G1 l1 R1 r1 => by
    obtain ⟨d, hd, k⟩ := good_opt k1
    refine hg xs ds d H1 G1 Q R1.gnd r1 hd (fun z hz => k z H1 G1 l1 R1 hz) fun p o z hp ho hz => ?_
    exact k z _ _ (l1.trans (Le.new (R1.gnd.sub.none hp))) (R1.new hp ho) hz⟩
/-- len -/
def gLen : List D → Option D
  | [.list xs] => some (.int xs.length)
  | [.tuple xs] => some (.int xs.length)
  | _ => none
theorem caS_len (hK : B.K = X.K) : CaS B (fun xs H Q => ∃ p ys, xs = [.ref p] ∧ (SqL X.K H p ys ∨ SqT X.K H p ys) ∧ Q (.int ys.length) H) gLen := by
  intro xs ds d H G Q gg r e q _
  rw [← hK]
  cases r with
  | nil => cases e
  | cons r1 r2 =>
    cases r2 with
    | cons _ _ => cases r1 <;> simp only [gLen, reduceCtorEq] at e
    | nil =>
      cases r1 <;> simp only [gLen, reduceCtorEq] at e
      · rename_i p ys zs hy ha
        cases e
        refine ⟨p, ys, rfl, .inl (.inl (gg.sub.rd hy)), ?_⟩
        rw [Mir.DqAll.len ha]
        exact q _ (.int _)
      · rename_i p ys zs hy ha
        cases e
        refine ⟨p, ys, rfl, .inr (gg.sub.st hy), ?_⟩
        rw [Mir.DqAll.len ha]
        exact q _ (.int _)
/-- tuple(xs), list(xs) -/
def gTuple : List D → Option D
  | [.list xs] => some (.tuple xs)
  | [.tuple xs] => some (.tuple xs)
  | _ => none
theorem caS_tuple (hK : B.K = X.K) : CaS B (fun xs H Q => ∃ p ys, xs = [.ref p] ∧ ((SqL X.K H p ys ∧ ∀ l, H l = none → Q (.ref l) (upd H l (.tup ys))) ∨ (SqT X.K H p ys ∧ Q (.ref p) H))) gTuple := by
  intro xs ds d H G Q gg r e q qn
  rw [← hK]
  cases r with
  | nil => cases e
  | cons r1 r2 =>
    cases r2 with
    | cons _ _ => cases r1 <;> simp only [gTuple, reduceCtorEq] at e
    | nil =>
      cases r1 <;> simp only [gTuple, reduceCtorEq] at e
      · rename_i p ys zs hy ha
        cases e
        refine ⟨p, ys, rfl, .inl ⟨.inl (gg.sub.rd hy), fun l hl => ?_⟩⟩
        exact qn l _ _ hl (fun ps z => by cases z) (.tup (.inl (.inl upd_same)) (DqAll.mono (Le.new (gg.sub.none hl)) _ _ ha))
      · rename_i p ys zs hy ha
        cases e
        exact ⟨p, ys, rfl, .inr ⟨gg.sub.st hy, q _ (.tup hy ha)⟩⟩
def gList : List D → Option D
  | [.list xs] => some (.list xs)
  | [.tuple xs] => some (.list xs)
  | _ => none
/-- ints -/
def gI1 (h : Int → Int) : List D → Option D
  | [.int i] => some (.int (h i))
  | _ => none
theorem caS_I1 {h : Int → Int} : CaS B (fun xs H Q => ∃ i, xs = [.int i] ∧ Q (.int (h i)) H) (gI1 h) := by
  intro xs ds d H G Q gg r e q _
  cases r with
  | nil => cases e
  | cons r1 r2 =>
    cases r2 with
    | cons _ _ => cases r1 <;> simp only [gI1, reduceCtorEq] at e
    | nil =>
      cases r1 <;> simp only [gI1, reduceCtorEq] at e
      cases e
      exact ⟨_, rfl, q _ (.int _)⟩
def gI2 (h : Int → Int → Int) : List D → Option D
  | [.int i, .int j] => some (.int (h i j))
  | _ => none
theorem caS_I2 {h : Int → Int → Int} : CaS B (fun xs H Q => ∃ i j, xs = [.int i, .int j] ∧ Q (.int (h i j)) H) (gI2 h) := by
  intro xs ds d H G Q gg r e q _
  cases r with
  | nil => cases e
  | cons r1 r2 =>
    cases r2 with
    | nil => cases r1 <;> simp only [gI2, reduceCtorEq] at e
    | cons r2 r3 =>
      cases r3 with
      | cons _ _ => cases r1 <;> cases r2 <;> simp only [gI2, reduceCtorEq] at e
      | nil =>
        cases r1 <;> cases r2 <;> simp only [gI2, reduceCtorEq] at e
        cases e
        exact ⟨_, _, rfl, q _ (.int _)⟩
/-- int(n) of a number -/
theorem caS_int : CaS B (fun xs H Q => (∃ i, xs = [.int i] ∧ Q (.int i) H) ∨ ∃ k, xs = [.bl k] ∧ Q (.int (if k then 1 else 0)) H) (gI1 fun i => i) := by
  intro xs ds d H G Q gg r e q qn
  exact .inl (caS_I1 (h := fun i => i) xs ds d H G Q gg r e q qn)
def iAbs (i : Int) : Int := if i < 0 then -i else i
def iMax (i j : Int) : Int := if j > i then j else i
def iMin (i j : Int) : Int := if j < i then j else i
/-- divmod by a positive number below 2 ^ 9000 -/
def gDivmod : List D → Option D
  | [.int i, .int j] => if decide (0 < j) = true then (if decide (j.natAbs.log2 < 9000) = true then some (.tuple [.int (i / j), .int (i % j)]) else none) else none
  | _ => none
theorem caS_divmod : CaS B (fun xs H Q => ∃ i j, xs = [.int i, .int j] ∧ CDivP i j ∧ ∀ p, H p = none → Q (.ref p) (upd H p (.tup [.int (i / j), .int (i % j)]))) gDivmod := by
  intro xs ds d H G Q gg r e q qn
  cases r with
  | nil => cases e
  | cons r1 r2 =>
    cases r2 with
    | nil => cases r1 <;> simp only [gDivmod, reduceCtorEq] at e
    | cons r2 r3 =>
      cases r3 with
      | cons _ _ => cases r1 <;> cases r2 <;> simp only [gDivmod, reduceCtorEq] at e
      | nil =>
        cases r1 <;> cases r2 <;> simp only [gDivmod, reduceCtorEq] at e
        rename_i i j
        by_cases h1 : decide (0 < j) = true
        · by_cases h2 : decide (j.natAbs.log2 < 9000) = true
          · rw [if_pos h1, if_pos h2] at e
            cases e
            refine ⟨i, j, rfl, ⟨of_decide_eq_true h1, PyProof.noPylong_of_log2 (of_decide_eq_true h2)⟩, fun p hp => ?_⟩
            exact qn p _ _ hp (fun ps z => by cases z) (.tup (.inl (.inl upd_same)) (.cons (.int _) (.cons (.int _) .nil)))
          · rw [if_pos h1, if_neg h2] at e; cases e
        · rw [if_neg h1] at e; cases e
/-- gcd -/
def iGcd (a b : Int) : Int := ((Nat.gcd a.natAbs b.natAbs : Nat) : Int)
end
end Mir
/-! The mirror's statements, loops, defs and their calls. -/
namespace Mir
open PySem PySem.Spec PyProof.Rows L2

/-- where a statement leads -/
inductive Fl where
  | nx
  | rt (d : D)
  | bk
  | ct
/-- a def's end: the value, its first argument's list behind it (where it is one that changes) -/
inductive Rs where
  | ok (d : D) (io : Option D)
  | exc (x : Exn)
  | bad
/-- what stands at a def's end -/
structure End (B : Bd) (H G : Hp) (env : ME) : Prop where
  gnd : Gnd B H G
  io : ∀ p ∈ B.io, ∃ d, env[p.1]? = some (some d) ∧ Own B H G p.2 d
section
variable {B : Bd} {σ : L2.St} {H G : Hp} {env : ME}
theorem Rel.fin (R : Rel B σ H G env) : End B H G env := by
  refine ⟨R.gnd, fun p hp => ?_⟩
  obtain ⟨h1, h2, d, h3⟩ := R.iok p hp
  obtain ⟨b, h4, h5, _⟩ := R.mt p.1 d h3 h1
  rw [h2] at h4
  cases h4
  exact ⟨d, h3, h5⟩
end
/-- a value handed back -/
def RtV (B : Bd) (env : ME) (d : D) (rt : VK) : Prop := ∀ x H G, End B H G env → Dq B.K G x d → rt x H
/-- a list of its own handed back -/
def RtO (B : Bd) (env : ME) (d : D) (rt : VK) : Prop := ∀ b H G, End B H G env → Own B H G b d → B.H0 b = none → rt (.ref b) H
/-- a statement by its mirror; own: what is handed back is a list of its own -/
def tS (B : Bd) (own : Bool) (f : M Fl) : TS := fun De σ H => ∃ G env, Rel B σ H G env ∧ Good B (f env) fun fl env' => match fl with
  | .nx => ∀ σ' H' G', Le G G' → Rel B σ' H' G' env' → De.nx σ' H'
  | .rt d => if own = true then RtO B env' d De.rt else RtV B env' d De.rt
  | .bk => ∀ σ' H' G', Le G G' → Rel B σ' H' G' env' → De.bk σ' H'
  | .ct => ∀ σ' H' G', Le G G' → Rel B σ' H' G' env' → De.ct σ' H'
def tG (B : Bd) (g : D → M Unit) : TG := fun v σ H Q => ∃ G env d, Rel B σ H G env ∧ Dq B.K G v d ∧ Good B (g d env) fun _ env' => ∀ σ' H' G', Rel B σ' H' G' env' → Q σ' H'
def tGs (B : Bd) (g : List D → M Unit) : TGs := fun vs σ H Q => ∃ G env ds, Rel B σ H G env ∧ DqAll B.K G vs ds ∧ Good B (g ds env) fun _ env' => ∀ σ' H' G', Rel B σ' H' G' env' → Q σ' H'

def mSeq (a b : M Fl) : M Fl := bnd a fun fl => match fl with
  | .nx => b
  | f => ret f
def setS (i : Nat) (d : D) : M Unit := fun e => if decide (i < e.length) = true then .ok () (e.set i (some d)) else .bad
def mSet (i : Nat) (f : M D) : M Fl := bnd f fun d => bnd (setS i d) fun _ => ret .nx
def mNx : M Fl := ret .nx
def mRet (f : M D) : M Fl := bnd f fun d => ret (.rt d)
def mDrop (f : M D) : M Fl := bnd f fun _ => ret .nx
section
variable {X : Cx} {B : Bd} {own : Bool} {st : Stmt} {rest : List Stmt} {f f1 f2 : M Fl} {g g1 : M D} {e : Expr} {pos : Pos} {t : M Bool}
theorem ss_nil : PSs X [] (tS B own mNx) := PSs.imp pss_nil fun D σ H ⟨G, env, R, gd⟩ => gd σ H G (Le.refl G) R
theorem ss_cons (h1 : PS X st (tS B own f1)) (h2 : PSs X rest (tS B own f2)) : PSs X (st :: rest) (tS B own (mSeq f1 f2)) :=
  PSs.imp (pss_cons h1 h2) fun De σ H ⟨G, env, R, gd⟩ => ⟨G, env, R, (good_bnd gd).imp fun fl e1 k => by
    cases fl with
    | nx =>
      refine fun σ' H' G' l1 R' => ⟨G', e1, R', Good.imp k fun fl e2 k2 => ?_⟩
      cases fl with
      | nx => exact fun σ2 H2 G2 l2 R2 => k2 σ2 H2 G2 (l1.trans l2) R2
      | rt d => exact k2
      | bk => exact fun σ2 H2 G2 l2 R2 => k2 σ2 H2 G2 (l1.trans l2) R2
      | ct => exact fun σ2 H2 G2 l2 R2 => k2 σ2 H2 G2 (l1.trans l2) R2
    | rt d => exact k
    | bk => exact k
    | ct => exact k⟩
theorem ss_one (h1 : PS X st (tS B own f1)) : PSs X [st] (tS B own f1) := pss_one h1
theorem s_drop (he : PE X e (tE B g)) (hs : swapsWith e none pos.line X.env = pure false := by rfl) : PS X (.Expr e pos) (tS B own (mDrop g)) :=
  PS.imp (ps_expr he hs) fun De σ H ⟨G, env, R, gd⟩ => ⟨G, env, R, (good_bnd gd).imp fun d e1 k x H1 G1 l1 R1 r1 => k σ H1 G1 l1 R1⟩
theorem s_ret (he : PE X e (tE B g)) : PS X (.Return (some e) pos) (tS B false (mRet g)) :=
  PS.imp (ps_ret he) fun De σ H ⟨G, env, R, gd⟩ => ⟨G, env, R, (good_bnd gd).imp fun d e1 k x H1 G1 l1 R1 r1 => k x H1 G1 R1.fin r1⟩
theorem s_retO (he : PE X e (tO B g)) : PS X (.Return (some e) pos) (tS B true (mRet g)) :=
  PS.imp (ps_ret he) fun De σ H ⟨G, env, R, gd⟩ => ⟨G, env, R, (good_bnd gd).imp fun d e1 k b H1 G1 l1 R1 w f => k b H1 G1 R1.fin w f.h0⟩
/-- what follows, from a later G -/
theorem fl_le {De : Ends} {G G1 : Hp} {r : Res Fl} (l : Le G G1) (k : Good B r fun fl env' => match fl with
    | .nx => ∀ σ' H' G', Le G G' → Rel B σ' H' G' env' → De.nx σ' H'
    | .rt d => if own = true then RtO B env' d De.rt else RtV B env' d De.rt
    | .bk => ∀ σ' H' G', Le G G' → Rel B σ' H' G' env' → De.bk σ' H'
    | .ct => ∀ σ' H' G', Le G G' → Rel B σ' H' G' env' → De.ct σ' H') : Good B r fun fl env' => match fl with
    | .nx => ∀ σ' H' G', Le G1 G' → Rel B σ' H' G' env' → De.nx σ' H'
    | .rt d => if own = true then RtO B env' d De.rt else RtV B env' d De.rt
    | .bk => ∀ σ' H' G', Le G1 G' → Rel B σ' H' G' env' → De.bk σ' H'
    | .ct => ∀ σ' H' G', Le G1 G' → Rel B σ' H' G' env' → De.ct σ' H' := Good.imp k fun fl e2 k2 => by
  cases fl with
  | nx => exact fun σ2 H2 G2 l2 R2 => k2 σ2 H2 G2 (l.trans l2) R2
  | rt d => exact k2
  | bk => exact fun σ2 H2 G2 l2 R2 => k2 σ2 H2 G2 (l.trans l2) R2
  | ct => exact fun σ2 H2 G2 l2 R2 => k2 σ2 H2 G2 (l.trans l2) R2
theorem s_if {a b : List Stmt} (hc : PT X e (tT B t)) (ha : PSs X a (tS B own f1)) (hb : PSs X b (tS B own f2)) : PS X (.If e a b pos) (tS B own (mIf t f1 f2)) :=
  PS.imp (ps_if hc ha hb) fun De σ H ⟨G, env, R, gd⟩ => ⟨G, env, R, (good_bnd gd).imp fun c e1 k H1 G1 l1 R1 => by
    cases c with
    | true => rw [if_pos rfl]; exact ⟨G1, e1, R1, fl_le l1 k⟩
    | false => rw [if_neg Bool.false_ne_true]; exact ⟨G1, e1, R1, fl_le l1 k⟩⟩
/-! ### targets -/
theorem good_set {i : Nat} {d : D} {env : ME} {k : Unit → ME → Prop} (g : Good B (setS i d env) k) : i < env.length ∧ k () (env.set i (some d)) := by
  unfold setS at g
  by_cases h : decide (i < env.length) = true
  · rw [if_pos h] at g
    exact ⟨of_decide_eq_true h, g⟩
  · rw [if_neg h] at g
    exact False.elim g
theorem s_set {i : Nat} {x : Str} {pos' : Pos} (hN : X.N.Nodup) (he : PE X e (tE B g)) (hm : B.mu.getD i false = false := by rfl) (hi : X.N[i]? = some x := by rfl) (hx : Loc X.env.scope x := by first | exact Or.inl rfl | exact Or.inr rfl)
    (hs : swapsWith e (some (.Name x pos')) pos.line X.env = pure false := by rfl) (hf : X.fn x = true ∨ X.env.scope.names.lookup x = some .local := by first | exact .inl rfl | exact .inr rfl) : PS X (.Assign [.Name x pos'] e pos) (tS B own (mSet i g)) :=
  PS.imp (ps_set hN hi hx he hs hf) fun De σ H ⟨G, env, R, gd⟩ => ⟨G, env, R, (good_bnd gd).imp fun d e1 k x H1 G1 l1 R1 r1 => by
    obtain ⟨hl, k⟩ := good_set (good_bnd k)
    exact k _ H1 G1 l1 (R1.set hm r1 (by rw [← R1.len]; exact hl))⟩
/-- x = a new list of its own -/
theorem s_setO {i : Nat} {x : Str} {pos' : Pos} (hN : X.N.Nodup) (he : PE X e (tO B g)) (hm : B.mu.getD i false = true := by rfl) (hio : ∀ p ∈ B.io, p.1 ≠ i := by intro p hp; first | exact absurd hp List.not_mem_nil | (cases hp with | head => (intro z; cases z) | tail _ h => exact absurd h List.not_mem_nil))
    (hi : X.N[i]? = some x := by rfl) (hx : Loc X.env.scope x := by first | exact Or.inl rfl | exact Or.inr rfl)
    (hs : swapsWith e (some (.Name x pos')) pos.line X.env = pure false := by rfl) (hf : X.fn x = true ∨ X.env.scope.names.lookup x = some .local := by first | exact .inl rfl | exact .inr rfl) : PS X (.Assign [.Name x pos'] e pos) (tS B own (mSet i g)) :=
  PS.imp (ps_set hN hi hx he hs hf) fun De σ H ⟨G, env, R, gd⟩ => ⟨G, env, R, (good_bnd gd).imp fun d e1 k b H1 G1 l1 R1 w f => by
    obtain ⟨hl, k⟩ := good_set (good_bnd k)
    exact k _ H1 G1 l1 (R1.own hm w f (by rw [← R1.len]; exact hl) hio)⟩
def gNilM : List D → M Unit := fun ds => match ds with
  | [] => ret ()
  | _ => bad
def gConsM (g : D → M Unit) (gs : List D → M Unit) : List D → M Unit := fun ds => match ds with
  | d :: r => bnd (g d) fun _ => gs r
  | [] => bad
/-- a name's slot holds no list that changes: what stands in G goes on to stand -/
def Off (us : List Nat) (σ σ' : L2.St) : Prop := σ'.length = σ.length ∧ ∀ j : Nat, j ∉ us → σ'[j]? = σ[j]?
theorem Off.refl (us : List Nat) (σ : L2.St) : Off us σ σ := ⟨rfl, fun _ _ => rfl⟩
theorem Off.trans {us : List Nat} {σ σ1 σ2 : L2.St} (a : Off us σ σ1) (b : Off us σ1 σ2) : Off us σ σ2 := ⟨b.1.trans a.1, fun j h => (b.2 j h).trans (a.2 j h)⟩
theorem Off.set {us : List Nat} {σ : L2.St} {i : Nat} {v : Option V} (h : i ∈ us) : Off us σ (σ.set i v) := ⟨List.length_set, fun j hj => List.getElem?_set_ne (fun z => hj (by rw [← z]; exact h))⟩
def tGL (B : Bd) (us : List Nat) (g : D → M Unit) : TG := fun v σ H Q => ∃ G env d, Rel B σ H G env ∧ Dq B.K G v d ∧ Good B (g d env) fun _ env' => ∀ σ' H' G', Off us σ σ' → Le G G' → Rel B σ' H' G' env' → Q σ' H'
def tGsL (B : Bd) (us : List Nat) (g : List D → M Unit) : TGs := fun vs σ H Q => ∃ G env ds, Rel B σ H G env ∧ DqAll B.K G vs ds ∧ Good B (g ds env) fun _ env' => ∀ σ' H' G', Off us σ σ' → Le G G' → Rel B σ' H' G' env' → Q σ' H'
theorem gL_name {i : Nat} {us : List Nat} {x : Str} (hN : X.N.Nodup) (hm : B.mu.getD i false = false := by rfl) (hus : i ∈ us := by decide) (hi : X.N[i]? = some x := by rfl) (hx : Loc X.env.scope x := by first | exact Or.inl rfl | exact Or.inr rfl)
    (hf : X.fn x = true ∨ X.env.scope.names.lookup x = some .local := by first | exact .inl rfl | exact .inr rfl) : PG X (.Name x pos) (tGL B us (setS i)) := by
  refine ⟨fun pins s σ H v u Q I r ⟨G, env, d, R, hd, gd⟩ => ?_⟩
  obtain ⟨hl, k⟩ := good_set gd
  exact (pg_name hN hi hx hf).run pins s σ H v u Q I r (k _ H G (Off.set hus) (Le.refl G) (R.set hm hd (by rw [← R.len]; exact hl)))
theorem gsL_nil {uu : List Nat} : PGs X [] (tGsL B uu gNilM) := by
  refine ⟨fun pins s σ H vs us Q I r ⟨G, env, ds, R, hd, gd⟩ => ?_⟩
  cases hd with
  | nil => exact pgs_nil.run pins s σ H [] us Q I r ⟨rfl, gd σ H G (Off.refl uu σ) (Le.refl G) R⟩
  | cons _ _ => exact False.elim gd
theorem gsL_cons {us : List Nat} {es : List Expr} {h : D → M Unit} {hs' : List D → M Unit} (h1 : PG X e (tGL B us h)) (h2 : PGs X es (tGsL B us hs')) (hs : (assignEach (e :: es) X.env).map (·.2) = assign e X.env :: (assignEach es X.env).map (·.2) := by rfl) :
    PGs X (e :: es) (tGsL B us (gConsM h hs')) := by
  refine ⟨fun pins s σ H vs us Q I r ⟨G, env, ds, R, hd, gd⟩ => ?_⟩
  cases hd with
  | nil => exact False.elim gd
  | @cons v vs d ds r1 r2 =>
    refine (pgs_cons h1 h2 hs).run pins s σ H (v :: vs) us Q I r ⟨v, vs, rfl, G, env, d, R, r1, (good_bnd gd).imp fun _ e1 k σ1 H1 G1 o1 l1 R1 => ⟨G1, e1, ds, R1, DqAll.mono l1 _ _ r2, Good.imp k fun _ e2 k2 σ2 H2 G2 o2 l2 R2 => k2 σ2 H2 G2 (o1.trans o2) (l1.trans l2) R2⟩⟩
/-- a, b = .. -/
def gTupM (n : Nat) (gs : List D → M Unit) : D → M Unit := fun d => match d with
  | .tuple ds => if decide (ds.length = n) = true then gs ds else bad
  | _ => bad
theorem gL_tup {us : List Nat} {es : List Expr} {k n : Nat} {hs' : List D → M Unit} (hK : B.K = X.K) (hc : X.calm = true) (h : PGs X es (tGsL B us hs')) (hn : (assignEach es X.env).length = n := by rfl) (hst : (assignEach es X.env).findIdx? (·.1) = none := by rfl) :
    PG X (.Tuple es k pos) (tGL B us (gTupM n hs')) := by
  refine ⟨fun pins s σ H v u Q I r ⟨G, env, d, R, hd, gd⟩ => ?_⟩
  cases hd with
  | @tup a xs ds ha hx =>
    unfold gTupM at gd
    by_cases hl : decide (ds.length = n) = true
    · simp only [hl, if_true] at gd
      refine (pg_tup hc h hn hst).run pins s σ H _ u Q I r ⟨a, xs, rfl, ?_, by rw [Mir.DqAll.len hx]; exact of_decide_eq_true hl, G, env, ds, R, hx, gd⟩
      rw [← hK]
      exact R.gnd.sub.st ha
    · simp only [hl] at gd
      exact False.elim gd
  | non => exact False.elim gd
  | bl _ => exact False.elim gd
  | int _ => exact False.elim gd
  | str _ => exact False.elim gd
  | lst _ _ => exact False.elim gd
  | dic _ => exact False.elim gd
def mAsg (f : M D) (g : D → M Unit) : M Fl := bnd f fun d => bnd (g d) fun _ => ret .nx
/-- any target = a value -/
theorem s_asg {us : List Nat} {tg : Expr} {h : D → M Unit} (he : PE X e (tE B g)) (hg : PG X tg (tGL B us h)) (hs : swapsWithSole [tg] e pos.line X.env = pure false := by rfl) (hw : swappedStores [tg] e X.env = pure none := by rfl)
    (h1 : (assignEach [tg] X.env).map (·.2) = [assign tg X.env] := by rfl) : PS X (.Assign [tg] e pos) (tS B own (mAsg g h)) :=
  PS.imp (ps_asg he hg hs hw h1) fun De σ H ⟨G, env, R, gd⟩ => ⟨G, env, R, (good_bnd gd).imp fun d e1 k x H1 G1 l1 R1 r1 => ⟨G1, e1, d, R1, r1, (good_bnd k).imp fun _ e2 k2 σ2 H2 G2 _ l2 R2 => k2 σ2 H2 G2 (l1.trans l2) R2⟩⟩

/-! ### what a for walks -/
def Iter (B : Bd) (G : Hp) (J : It) (ds : List D) : Prop := ∀ (i : Nat) (σ : L2.St) (H' G' : Hp) (env : ME), Le G G' → Rel B σ H' G' env →
  (ds.length ≤ i → J.stop i H') ∧ ∀ d, ds[i]? = some d → J.go i H' ∧ ∀ x H3, J.yld i H' x H3 → ∃ G3, Le G' G3 ∧ Rel B σ H3 G3 env ∧ Dq B.K G3 x d ∧ Le H' H3 ∧ ∀ a o, G3 a = some o → G' a = some o ∨ H' a = none
def tI (B : Bd) (f : M (List D)) : TI := fun σ H R => ∃ G env, Rel B σ H G env ∧ Good B (f env) fun ds env' => ∀ J H' G', Le G G' → Rel B σ H' G' env' → Iter B G' J ds → R J H'
theorem PI.imp {tg iter : Expr} {w w' : TI} (h : PI X tg iter w) (i : ∀ σ H R, w' σ H R → w σ H R) : PI X tg iter w' := ⟨fun pins s σ H R I q => h.run pins s σ H R I (i σ H R q)⟩
/-- a list or a tuple -/
def iSeq (K : PySem.W.Frag) (tl : TE) : TI := fun σ H R => tl σ H fun x H1 => ∃ a, x = .ref a ∧ ((∃ xs, SqL K H1 a xs ∧ R (Itl K a) H1) ∨ ∃ xs, SqT K H1 a xs ∧ R (Itt K a) H1)
theorem pi_seq {tg l : Expr} {tl : TE} (hl : PE X l tl) : PI X tg l (iSeq X.K tl) := by
  refine ⟨fun pins s σ H R I h => ?_⟩
  refine thn (hl.run pins s σ H _ I h) fun v s1 ⟨x, H1, I1, r1, q1⟩ => ?_
  obtain ⟨a, e, q⟩ := q1
  subst e
  cases r1
  have fin : ∀ {it : Addr}, it = s1.heap.objs.size → FpOk X pins H1 it := fun {it} z => by
    rw [z]
    exact I1.fpOk (Nat.le_refl _) (I1.hok.fresh (Nat.le_refl _))
  rcases q with ⟨xs, hq, q⟩ | ⟨xs, hq, q⟩
  · obtain ⟨its, rv, p, hz⟩ := I1.list hq
    refine wpAny_pyIter_list p.isList ?_
    exact ⟨s1.heap.objs.size, [s1.heap.objs.size], _, _, H1, rfl, I1.kept (t' := s1.toks) fun b o e => Heap.get?_push_of_some _ e, turn_list a _, ⟨_, Heap.get?_push_size _ rfl, rfl, rfl⟩, fun b hb => fin (by simpa using hb), q⟩
  · obtain ⟨its, rv, p, hz⟩ := I1.tuple hq
    refine wpAny_pyIter_tuple (show s1.heap.IsTuple a its.toArray from p) ?_
    exact ⟨s1.heap.objs.size, [s1.heap.objs.size], _, _, H1, rfl, I1.kept (t' := s1.toks) fun b o e => Heap.get?_push_of_some _ e, turn_tuple a _, ⟨_, Heap.get?_push_size _ rfl, rfl, rfl⟩, fun b hb => fin (by simpa using hb), q⟩
def dItems : D → Option (List D)
  | .list xs => some xs
  | .tuple xs => some xs
  | _ => none
def mItems (f : M D) : M (List D) := bnd f fun d => opt (dItems d)
theorem iter_list {G : Hp} {a : Addr} {xs : List V} {ds : List D} (hx : Rd G a (.lst xs)) (ha : DqAll B.K G xs ds) : Iter B G (Itl B.K a) ds := by
  intro i σ H' G' env l R
  have hs : SqL B.K H' a xs := .inl ((l.trans R.gnd.sub).rd hx)
  have ha' := DqAll.mono l _ _ ha
  refine ⟨fun hi => ⟨xs, hs, by rw [Mir.DqAll.len ha]; exact hi⟩, fun d hd => ?_⟩
  obtain ⟨x, h1, h2⟩ := Mir.DqAll.at ha' hd
  refine ⟨⟨xs, x, hs, h1⟩, fun y H3 ⟨e, hy⟩ => ?_⟩
  subst e
  have z := (hy xs hs).symm.trans h1
  cases z
  exact ⟨G', Le.refl G', R, h2, Le.refl _, fun _ _ h => .inl h⟩
theorem iter_tup {G : Hp} {a : Addr} {xs : List V} {ds : List D} (hx : SqT B.K G a xs) (ha : DqAll B.K G xs ds) : Iter B G (Itt B.K a) ds := by
  intro i σ H' G' env l R
  have hs : SqT B.K H' a xs := (l.trans R.gnd.sub).st hx
  have ha' := DqAll.mono l _ _ ha
  refine ⟨fun hi => ⟨xs, hs, by rw [Mir.DqAll.len ha]; exact hi⟩, fun d hd => ?_⟩
  obtain ⟨x, h1, h2⟩ := Mir.DqAll.at ha' hd
  refine ⟨⟨xs, x, hs, h1⟩, fun y H3 ⟨e, hy⟩ => ?_⟩
  subst e
  have z := (hy xs hs).symm.trans h1
  cases z
  exact ⟨G', Le.refl G', R, h2, Le.refl _, fun _ _ h => .inl h⟩
theorem i_seq {tg : Expr} (hK : B.K = X.K) (he : PE X e (tE B g)) : PI X tg e (tI B (mItems g)) :=
  PI.imp (pi_seq he) fun σ H R' ⟨G, env, R, gd⟩ => ⟨G, env, R, (good_bnd gd).imp fun d e1 k x H1 G1 l1 R1 r1 => by
    obtain ⟨ds, hd, k⟩ := good_opt k
    rw [← hK]
    cases r1 <;> simp only [dItems, reduceCtorEq] at hd
    · rename_i a xs zs hx ha
      cases hd
      exact ⟨a, rfl, .inl ⟨xs, .inl (R1.gnd.sub.rd hx), k _ H1 G1 l1 R1 (iter_list hx ha)⟩⟩
    · rename_i a xs zs hx ha
      cases hd
      exact ⟨a, rfl, .inr ⟨xs, R1.gnd.sub.st hx, k _ H1 G1 l1 R1 (iter_tup hx ha)⟩⟩⟩
/-- a range -/
def rngD (lo : Int) (n : Nat) : List D := (List.range n).map fun i => .int (lo + ((i : Nat) : Int))
def near (i : Int) : Bool := decide (-(2 ^ 62) ≤ i) && decide (i < 2 ^ 62)
def gRange1 : List D → Option (List D)
  | [.int j] => if near j = true then some (rngD 0 j.toNat) else none
  | _ => none
def gRange2 : List D → Option (List D)
  | [.int i, .int j] => if near i = true then (if near j = true then some (rngD i (j - i).toNat) else none) else none
  | _ => none
theorem near_ok {i : Int} (h : near i = true) : -(2 ^ 62) ≤ i ∧ i < 2 ^ 62 := by
  unfold near at h
  rw [Bool.and_eq_true] at h
  exact ⟨of_decide_eq_true h.1, of_decide_eq_true h.2⟩
theorem iter_rng {G : Hp} {lo : Int} {n : Nat} : Iter B G (Itr lo n) (rngD lo n) := by
  intro i σ H' G' env l R
  refine ⟨fun hi => ?_, fun d hd => ?_⟩
  · unfold rngD at hi
    rw [List.length_map, List.length_range] at hi
    exact hi
  · unfold rngD at hd
    rw [List.getElem?_map] at hd
    obtain ⟨j, h1, h2⟩ := Option.map_eq_some_iff.mp hd
    obtain ⟨h3, h4⟩ := List.getElem?_eq_some_iff.mp h1
    rw [List.getElem_range] at h4
    rw [List.length_range] at h3
    subst h4
    subst h2
    refine ⟨h3, fun x H3 ⟨e, hx⟩ => ?_⟩
    subst e
    subst hx
    exact ⟨G', Le.refl G', R, .int _, Le.refl _, fun _ _ h => .inl h⟩
def mRange1 (a : M (List D)) : M (List D) := bnd a fun ds => opt (gRange1 ds)
def mRange2 (a : M (List D)) : M (List D) := bnd a fun ds => opt (gRange2 ds)
theorem i_range1 {tg a : Expr} {ga : M (List D)} {p : Pos} (hg : Gl X "range") (hm : X.mg "range" = none) (ha : PA X [a] (tA B ga)) (hs : starEach [a] X.env = [(false, eval a X.env)] := by rfl) : PI X tg (.Call (.Name "range" p) [a] [] pos) (tI B (mRange1 ga)) :=
  PI.imp (pi_range1 hg hm ha hs) fun σ H R' ⟨G, env, R, gd⟩ => ⟨G, env, R, (good_bnd gd).imp fun ds e1 k xs H1 G1 l1 R1 r1 => by
    obtain ⟨zs, hd, k⟩ := good_opt k
    cases r1 with
    | nil => cases hd
    | cons r1 r2 =>
      cases r2 with
      | nil =>
        cases r1 <;> simp only [gRange1, reduceCtorEq] at hd
        rename_i j
        by_cases h : near j = true
        · rw [if_pos h] at hd
          cases hd
          exact ⟨j, rfl, (near_ok h).1, (near_ok h).2, k _ H1 G1 l1 R1 iter_rng⟩
        · rw [if_neg h] at hd; cases hd
      | cons r2 r3 => cases r1 <;> simp only [gRange1, reduceCtorEq] at hd⟩
theorem i_range2 {tg a b : Expr} {ga : M (List D)} {p : Pos} (hg : Gl X "range") (hm : X.mg "range" = none) (ha : PA X [a, b] (tA B ga)) (hs : starEach [a, b] X.env = [(false, eval a X.env), (false, eval b X.env)] := by rfl) (hs2 : starEach [b] X.env = [(false, eval b X.env)] := by rfl) :
    PI X tg (.Call (.Name "range" p) [a, b] [] pos) (tI B (mRange2 ga)) :=
  PI.imp (pi_range2 hg hm ha hs hs2) fun σ H R' ⟨G, env, R, gd⟩ => ⟨G, env, R, (good_bnd gd).imp fun ds e1 k xs H1 G1 l1 R1 r1 => by
    obtain ⟨zs, hd, k⟩ := good_opt k
    cases r1 with
    | nil => cases hd
    | cons r1 r2 =>
      cases r2 with
      | nil => cases r1 <;> simp only [gRange2, reduceCtorEq] at hd
      | cons r2 r3 =>
        cases r3 with
        | nil =>
          cases r1 <;> cases r2 <;> simp only [gRange2, reduceCtorEq] at hd
          rename_i i j
          by_cases h : near i = true
          · by_cases h2 : near j = true
            · rw [if_pos h, if_pos h2] at hd
              cases hd
              exact ⟨i, j, rfl, ⟨(near_ok h).1, (near_ok h).2, (near_ok h2).1, (near_ok h2).2⟩, k _ H1 G1 l1 R1 iter_rng⟩
            · rw [if_pos h, if_neg h2] at hd; cases hd
          · rw [if_neg h] at hd; cases hd
        | cons r3 r4 => cases r1 <;> cases r2 <;> simp only [gRange2, reduceCtorEq] at hd⟩

/-! ### for, while -/
def mEach (g : D → M Unit) (b : M Fl) : List D → M Fl
  | [] => ret .nx
  | d :: r => bnd (g d) fun _ => bnd b fun fl => match fl with
    | .nx => mEach g b r
    | .ct => mEach g b r
    | .bk => ret .nx
    | .rt d => ret (.rt d)
def mFor (src : M (List D)) (g : D → M Unit) (b : M Fl) : M Fl := bnd src fun ds => mEach g b ds
theorem s_for {us : List Nat} {tg iter : Expr} {body : List Stmt} {src : M (List D)} {h : D → M Unit} {b : M Fl} (hp : PassesOwn (model X.prog X.w) X.A X.env X.xe) (hc : X.calm = true) (hi : PI X tg iter (tI B src)) (hg : PG X tg (tGL B us h)) (hb : PSs X body (tS B own b))
    (hs : ∀ x, foldedSetIterable iter X.env x = pure x := by intro _; rfl) : PS X (.For tg iter body [] pos) (tS B own (mFor src h b)) := by
  refine PS.imp (ps_for hp hc hi hg hb hs) fun De σ H ⟨G, env, R, gd⟩ => ⟨G, env, R, (good_bnd gd).imp fun ds e1 k J H1 G1 l1 R1 itr => ?_⟩
  have k := fl_le l1 k
  refine ⟨fun i m σ' H' => i ≤ ds.length ∧ m = ds.length - i ∧ ∃ G' env', Le G1 G' ∧ Rel B σ' H' G' env' ∧ Good B (mEach h b (ds.drop i) env') fun fl env' => match fl with
    | .nx => ∀ σ' H' G', Le G1 G' → Rel B σ' H' G' env' → De.nx σ' H'
    | .rt d => if own = true then RtO B env' d De.rt else RtV B env' d De.rt
    | .bk => ∀ σ' H' G', Le G1 G' → Rel B σ' H' G' env' → De.bk σ' H'
    | .ct => ∀ σ' H' G', Le G1 G' → Rel B σ' H' G' env' → De.ct σ' H', ⟨ds.length, Nat.zero_le _, rfl, G1, e1, Le.refl G1, R1, k⟩, ?_⟩
  rintro i m σ' H' ⟨hil, rfl, G', env', l', R', gd'⟩
  obtain ⟨i1, i2⟩ := itr i σ' H' G' env' l' R'
  by_cases hi : i < ds.length
  · have e : ds.drop i = ds[i] :: ds.drop (i + 1) := List.drop_eq_getElem_cons hi
    rw [e] at gd'
    obtain ⟨g1, g2⟩ := i2 ds[i] (List.getElem?_eq_getElem hi)
    refine .inr ⟨g1, fun σ2 H2 => i + 1 ≤ ds.length ∧ ds.length - (i + 1) = ds.length - (i + 1) ∧ ∃ G' env', Le G1 G' ∧ Rel B σ2 H2 G' env' ∧ Good B (mEach h b (ds.drop (i + 1)) env') fun fl env' => match fl with
      | .nx => ∀ σ' H' G', Le G1 G' → Rel B σ' H' G' env' → De.nx σ' H'
      | .rt d => if own = true then RtO B env' d De.rt else RtV B env' d De.rt
      | .bk => ∀ σ' H' G', Le G1 G' → Rel B σ' H' G' env' → De.bk σ' H'
      | .ct => ∀ σ' H' G', Le G1 G' → Rel B σ' H' G' env' → De.ct σ' H', fun σ2 H2 z => ⟨ds.length - (i + 1), by omega, z⟩, fun x H3 hy => ?_⟩
    obtain ⟨G3, l3, R3, hd, _⟩ := g2 x H3 hy
    refine ⟨G3, env', ds[i], R3, hd, (good_bnd gd').imp fun _ e4 k4 σ4 H4 G4 _ l4 R4 => ⟨G4, e4, R4, (good_bnd k4).imp fun fl e5 k5 => ?_⟩⟩
    have ll := (l'.trans l3).trans l4
    cases fl with
    | nx => exact fun σ5 H5 G5 l5 R5 => ⟨hi, rfl, G5, e5, ll.trans l5, R5, k5⟩
    | ct => exact fun σ5 H5 G5 l5 R5 => ⟨hi, rfl, G5, e5, ll.trans l5, R5, k5⟩
    | bk => exact fun σ5 H5 G5 l5 R5 => k5 σ5 H5 G5 (ll.trans l5) R5
    | rt d => exact k5
  · have e : ds.drop i = [] := List.drop_eq_nil_of_le (by omega)
    rw [e] at gd'
    exact .inl ⟨i1 (by omega), gd' σ' H' G' l' R'⟩
def mLoop (c : M Bool) (b : M Fl) : Nat → M Fl
  | 0 => bad
  | n + 1 => bnd c fun k => if k = true then bnd b fun fl => match fl with
    | .nx => mLoop c b n
    | .ct => mLoop c b n
    | .bk => ret .nx
    | .rt d => ret (.rt d)
    else ret .nx
/-- a while, given turns enough -/
def mWhile (turns : ME → Nat) (c : M Bool) (b : M Fl) : M Fl := fun e => mLoop c b (turns e) e
theorem s_while {c : Expr} {body : List Stmt} {b : M Fl} (turns : ME → Nat) (hp : PassesOwn (model X.prog X.w) X.A X.env X.xe) (hc : PT X c (tT B t)) (hb : PSs X body (tS B own b)) : PS X (.While c body [] pos) (tS B own (mWhile turns t b)) := by
  refine PS.imp (ps_while hp hc hb) fun De σ H ⟨G, env, R, gd⟩ => ?_
  refine ⟨fun m σ' H' => ∃ G' env', Le G G' ∧ Rel B σ' H' G' env' ∧ Good B (mLoop t b m env') fun fl env' => match fl with
    | .nx => ∀ σ' H' G', Le G G' → Rel B σ' H' G' env' → De.nx σ' H'
    | .rt d => if own = true then RtO B env' d De.rt else RtV B env' d De.rt
    | .bk => ∀ σ' H' G', Le G G' → Rel B σ' H' G' env' → De.bk σ' H'
    | .ct => ∀ σ' H' G', Le G G' → Rel B σ' H' G' env' → De.ct σ' H', ⟨turns env, G, env, Le.refl G, R, gd⟩, ?_⟩
  rintro m σ' H' ⟨G', env', l', R', gd'⟩
  cases m with
  | zero => exact False.elim gd'
  | succ m =>
    refine ⟨G', env', R', (good_bnd gd').imp fun k e1 k1 H1 G1 l1 R1 => ?_⟩
    cases k with
    | false =>
      rw [if_neg Bool.false_ne_true] at k1 ⊢
      exact k1 σ' H1 G1 (l'.trans l1) R1
    | true =>
      rw [if_pos rfl] at k1 ⊢
      refine ⟨fun σ2 H2 => ∃ G' env', Le G G' ∧ Rel B σ2 H2 G' env' ∧ Good B (mLoop t b m env') fun fl env' => match fl with
        | .nx => ∀ σ' H' G', Le G G' → Rel B σ' H' G' env' → De.nx σ' H'
        | .rt d => if own = true then RtO B env' d De.rt else RtV B env' d De.rt
        | .bk => ∀ σ' H' G', Le G G' → Rel B σ' H' G' env' → De.bk σ' H'
        | .ct => ∀ σ' H' G', Le G G' → Rel B σ' H' G' env' → De.ct σ' H', fun σ2 H2 z => ⟨m, Nat.lt_succ_self m, z⟩, G1, e1, R1, (good_bnd k1).imp fun fl e2 k2 => ?_⟩
      have ll := l'.trans l1
      cases fl with
      | nx => exact fun σ3 H3 G3 l3 R3 => ⟨G3, e2, ll.trans l3, R3, k2⟩
      | ct => exact fun σ3 H3 G3 l3 R3 => ⟨G3, e2, ll.trans l3, R3, k2⟩
      | bk => exact fun σ3 H3 G3 l3 R3 => k2 σ3 H3 G3 (ll.trans l3) R3
      | rt d => exact k2
end
end Mir
/-! The mirror's defs and their calls. -/
namespace Mir
open PySem PySem.Spec PyProof.Rows L2

def ioL : Bool → Addr → List (Nat × Addr)
  | true, b => [(0, b)]
  | false, _ => []
/-- the ground of a call: H, G as they stood -/
abbrev b0 (K : PySem.W.Frag) (H G : Hp) (io : Bool) (b : Addr) (T : List Addr) : Bd := ⟨K, H, G, [], ioL io b, T, fun _ _ _ _ => False⟩
/-- the arguments; io: the first one is a list that the def changes -/
inductive ArgsR (K : PySem.W.Frag) (H G : Hp) (T : List Addr) : Bool → Addr → List V → List D → Prop
  | plain {b : Addr} {vs : List V} {ds : List D} : DqAll K G vs ds → ArgsR K H G T false b vs ds
  | io {b : Addr} {vs : List V} {ds : List D} {d : D} : Own (b0 K H G true b T) H G b d → DqAll K G vs ds → ArgsR K H G T true b (.ref b :: vs) (d :: ds)
/-- a def's promise: it does what its mirror m does -/
def spM (K : PySem.W.Frag) (T : List Addr) (io own : Bool) (m : List D → Rs) : Sp := fun vs H Q E => ∃ G b ds, ArgsR K H G T io b vs ds ∧ Gnd (b0 K H G io b T) H G ∧ match m ds with
  | .ok d out => ∀ H' G', Gnd (b0 K H G io b T) H' G' → (io = true → ∃ d0, out = some d0 ∧ Own (b0 K H G io b T) H' G' b d0) →
      (if own = true then ∀ c, Own (b0 K H G io b T) H' G' c d → H c = none → Q (.ref c) H' else ∀ x, Dq K G' x d → Q x H')
  | .exc x => ∀ H' G' cls dd, Gnd (b0 K H G io b T) H' G' → ExV (b0 K H G io b T) H' G' x cls dd → E cls dd H'
  | .bad => False
/-- a def's mirror out of its body's; n parameters, all in all N names -/
def mDef (n N : Nat) (io own : Bool) (body : M Fl) : List D → Rs := fun ds => if decide (ds.length = n) = true then (match body (ds.map some ++ List.replicate (N - ds.length) none) with
  | .ok (.rt d) e => .ok d (if io = true then e.getD 0 none else none)
  | .ok .nx e => if own = true then .bad else .ok .none (if io = true then e.getD 0 none else none)
  | .ok _ _ => .bad
  | .exc x _ => .exc x
  | .bad => .bad) else .bad
theorem mDef_len {n N : Nat} {io own : Bool} {body : M Fl} {ds : List D} (h : ds.length ≠ n) : mDef n N io own body ds = .bad := by
  unfold mDef
  rw [if_neg (by simpa using h)]
theorem args_len {K : PySem.W.Frag} {H G : Hp} {T : List Addr} {io : Bool} {b : Addr} {vs : List V} {ds : List D} (h : ArgsR K H G T io b vs ds) : vs.length = ds.length := by
  cases h with
  | plain h => exact Mir.DqAll.len h
  | io _ h => rw [List.length_cons, List.length_cons, Mir.DqAll.len h]
/-- only the first parameter may be a list that changes, if io -/
def muOk (mu : List Bool) (io : Bool) (n : Nat) : Bool := (List.range n).all fun i => mu.getD i false == (io && i == 0)
theorem start_get {N : List Str} {vs : List V} {i : Nat} : (i < vs.length → (L2.start N vs)[i]? = (vs[i]?).map some) := fun h => by
  unfold L2.start
  rw [List.getElem?_append_left (by simpa using h), List.getElem?_map]
theorem env_get {ds : List D} {k i : Nat} {d : D} (h : (ds.map some ++ List.replicate k (none : Option D))[i]? = some (some d)) : ds[i]? = some d := by
  by_cases hi : i < ds.length
  · rw [List.getElem?_append_left (by simpa using hi), List.getElem?_map] at h
    cases e : ds[i]? with
    | none => rw [e] at h; cases h
    | some x => rw [e] at h; cases h; rfl
  · rw [List.getElem?_append_right (by simpa using hi), List.getElem?_replicate] at h
    split at h <;> cases h
section
variable {P : Program} {w : World} {K : PySem.W.Frag} {mg : Str → Option Value} {base : Heap}
/-- the ground of a def's body -/
abbrev bodyB (K : PySem.W.Frag) (H G : Hp) (mu : List Bool) (io : Bool) (b : Addr) (T : List Addr) (E : XK) : Bd := ⟨K, H, G, mu, ioL io b, T, fun cls d _ H' => E cls d H'⟩
theorem start_rel {N : List Str} {H G : Hp} {mu : List Bool} {io : Bool} {b : Addr} {T : List Addr} {E : XK} {vs : List V} {ds : List D} (ha : ArgsR K H G T io b vs ds) (g : Gnd (b0 K H G io b T) H G) (hm : muOk mu io ds.length = true) (hN : ds.length ≤ N.length) :
    Rel (bodyB K H G mu io b T E) (L2.start N vs) H G (ds.map some ++ List.replicate (N.length - ds.length) none) := by
  have hl := args_len ha
  have mu_at : ∀ i, i < ds.length → mu.getD i false = (io && i == 0) := fun i hi => by
    have z := List.all_eq_true.mp hm i (List.mem_range.mpr hi)
    exact beq_iff_eq.mp z
  have lt_of : ∀ i d, (ds.map some ++ List.replicate (N.length - ds.length) (none : Option D))[i]? = some (some d) → i < ds.length := fun i d h => (List.getElem?_eq_some_iff.mp (env_get h)).1
  refine ⟨⟨g.sub, g.g0, g.fr, g.nw, g.nt, g.tab, g.keep⟩, ?_, fun i d h hmu => ?_, fun i d h hmu => ?_, fun i j c d e h h' hi hj h1 h2 => ?_, fun p hp => ?_⟩
  · unfold L2.start
    rw [List.length_append, List.length_append, List.length_map, List.length_map, List.length_replicate, List.length_replicate, hl]
  · have hi := lt_of i d h
    have hd := env_get h
    have hmu : mu.getD i false = false := hmu
    rw [mu_at i hi] at hmu
    rw [start_get (by rw [hl]; exact hi)]
    cases ha with
    | plain ha =>
      obtain ⟨x, h1, h2⟩ := Mir.DqAll.at ha hd
      exact ⟨x, by rw [h1]; rfl, h2⟩
    | io hw ha =>
      cases i with
      | zero => cases hmu
      | succ i =>
        rw [List.getElem?_cons_succ] at hd
        obtain ⟨x, h1, h2⟩ := Mir.DqAll.at ha hd
        exact ⟨x, by rw [List.getElem?_cons_succ, h1]; rfl, h2⟩
  · have hi := lt_of i d h
    have hd := env_get h
    have hmu : mu.getD i false = true := hmu
    rw [mu_at i hi] at hmu
    rw [start_get (by rw [hl]; exact hi)]
    cases ha with
    | plain ha => rw [Bool.false_and] at hmu; cases hmu
    | io hw ha =>
      rw [Bool.true_and] at hmu
      have z : i = 0 := beq_iff_eq.mp hmu
      subst z
      rw [List.getElem?_cons_zero] at hd
      cases hd
      exact ⟨b, rfl, ⟨hw.ex, hw.out⟩, .inl (List.mem_singleton.mpr rfl)⟩
  · have hi' := lt_of i d h
    have hj' := lt_of j e h'
    have hi : mu.getD i false = true := hi
    have hj : mu.getD j false = true := hj
    rw [mu_at i hi', Bool.and_eq_true] at hi
    rw [mu_at j hj', Bool.and_eq_true] at hj
    rw [beq_iff_eq.mp hi.2, beq_iff_eq.mp hj.2]
  · cases ha with
    | plain ha => exact absurd hp List.not_mem_nil
    | @io b vs ds d hw ha =>
      have z : p = (0, b) := List.mem_singleton.mp hp
      subst z
      refine ⟨?_, rfl, d, rfl⟩
      show mu.getD 0 false = true
      rw [mu_at 0 (Nat.succ_pos _)]
      rfl
end
/-- room to run, and no container is being shown -/
structure RoomG (k : Nat) (A : Around) : Prop where
  r : Room k A
  g : A.guards = some []
theorem RoomG.mono {j k : Nat} {A : Around} (r : RoomG k A) (h : j ≤ k) : RoomG j A := ⟨r.r.mono h, r.g⟩
theorem RoomG.deeper {k : Nat} {A : Around} (r : RoomG (k + 1) A) (env : PySem.Env) : RoomG k (A.deeper env) := ⟨r.r.deeper env, r.g⟩
theorem RoomG.units {k : Nat} {A : Around} (r : RoomG k A) : A.units + 64 < cLine := by have := r.r.un; omega
/-- FnOk where no container is being shown -/
structure FnG (P : Program) (w : World) (K : PySem.W.Frag) (mg : Str → Option Value) (base : Heap) (k : Nat) (f : Addr) (fd : FuncData) (ps : List Str) (sp : Sp) : Prop where
  len : ∀ vs H Q E, sp vs H Q E → vs.length = ps.length
  run : ∀ (A : Around) (outer : List PySem.Env) (s : Shared) (H : Hp) (args : Args) (us : List Value) (vs : List V) (Q : VK) (E : XK), RoomG k A → Env0 P w K mg base A outer s H → BindsTo s fd args (ps.zip us) → Vals vs us → sp vs H Q E →
    codeAny (model P w) A (.call (.ref f) args) (CR (L2.CX P w) outer P w H s Q E) s
theorem FnG.mono {P : Program} {w : World} {K : PySem.W.Frag} {mg : Str → Option Value} {base : Heap} {j k : Nat} {f : Addr} {fd : FuncData} {ps : List Str} {sp : Sp} (F : FnG P w K mg base j f fd ps sp) (h : j ≤ k) : FnG P w K mg base k f fd ps sp :=
  ⟨F.len, fun A outer s H args us vs Q E hr => F.run A outer s H args us vs Q E (hr.mono h)⟩
section
variable {X : Cx} {k : Nat} {f : Addr} {fd : FuncData} {ps : List Str} {sp : Sp} {x : Str} {p pos : Pos} {e : Expr} {es : List Expr} {t : TA}
theorem run_fnG {pins : List (Addr × Obj)} {σ : L2.St} {H : Hp} {s : Shared} {Q : VK} {args : Args} {us : List Value} {vs : List V} (F : FnG X.prog X.w X.K X.mg X.base k f fd ps sp) (hr : RoomG k X.A) (I : Inv X pins σ H s) (hb : BindsTo s fd args (ps.zip us)) (r : Vals vs us) (h : sp vs H Q E0) :
    wpAny (model X.prog X.w) X.A (call (.ref f) args.pos args.kw) (EP X pins σ Q) X.xe s := by
  refine wpAny_call (codeAny_mono (F.run X.A X.stack s H args us vs Q E0 hr I.env0 hb r h) fun r s' hq => ?_)
  cases r with
  | error e => exact passL pins σ H s e s' I hq
  | ok fl =>
    cases fl with
    | ret u => exact I.after hq
    | next => exact False.elim hq
    | brk => exact False.elim hq
    | cont => exact False.elim hq
theorem pe_callG (F : FnG X.prog X.w X.K X.mg X.base k f fd ps sp) (hr : RoomG k X.A) (hg : Gl X x) (hm : X.mg x = some (.ref f)) (hk : PySem.W.keepIn X.K (.ref f) = true) (hb : Binds X.K fd ps []) (ha : PA X (e :: es) t) (hdb : (x == ("__debug__" : Str)) = false)
    (he : starEach (e :: es) X.env = (false, eval e X.env) :: starEach es X.env) (hpl : (backTo pos (starEach es X.env)).any (·.1) = false) : PE X (.Call (.Name x p) (e :: es) [] pos) (tCall sp [] E0 t) := by
  refine ⟨fun pins s σ H Q I h => ?_⟩
  refine wpAny_Call_Name_kw (ld_glob I hg hm ?_ hdb)
  refine PySem.W.callWith_K (h₀ := X.base) I.ok.mod.kin hk (thn (ha.run pos pins s σ H _ I h) fun us s1 ⟨vs, H1, I1, r, q⟩ => ⟨I1.kIn, ?_⟩) he hpl
  have q : sp (vs ++ []) H1 Q E0 := q
  rw [List.append_nil] at q
  have hl : (us ++ ([] : List Value)).length = ps.length := by rw [List.append_nil, ← r.length]; exact F.len _ _ _ _ q
  have hb' := hb s1 us I1.kIn hl
  rw [List.append_nil] at hb'
  exact run_fnG (args := ⟨us, []⟩) F hr I1 hb' r q
end

/-! ### calls -/
section
variable {B : Bd} {σ : L2.St} {H G H' G' : Hp} {env : ME}
theorem Gnd.call (g : Gnd B H G) {io : Bool} {b : Addr} (hio : io = true → ((∃ p ∈ B.io, p.2 = b) ∨ B.H0 b = none) ) (g' : Gnd (b0 B.K H G io b B.T) H' G') : Gnd B H' G' := by
  refine ⟨g'.sub, g.g0.trans g'.g0, fun a o h h1 h2 => g'.fr a o (g.fr a o h h1 h2) (fun p hp => ?_) h2, fun a o h => ?_, g'.nt, g'.tab, fun a h => g.keep a (g'.keep a h)⟩
  · cases io with
    | false => exact absurd hp List.not_mem_nil
    | true =>
      have z : p = (0, b) := List.mem_singleton.mp hp
      subst z
      intro hab
      rcases hio rfl with ⟨q, hq, e⟩ | hn
      · exact h1 q hq (e.trans hab)
      · have hab : b = a := hab
        rw [hab] at hn
        rw [hn] at h
        cases h
  · rcases g'.nw a o h with h | h
    · exact g.nw a o h
    · exact .inr (g.keep a h)
/-- a list of H that is not in G, other than the call's, stands as it stood -/
theorem gnd_keeps {K : PySem.W.Frag} {T : List Addr} {io : Bool} {b c : Addr} {xs : List V} (g' : Gnd (b0 K H G io b T) H' G') (hc : H c = some (.lst xs)) (hG : G c = none) (hb : io = true → c ≠ b) : H' c = H c ∧ G' c = none := by
  refine ⟨?_, ?_⟩
  · rw [hc]
    refine g'.fr c _ hc (fun p hp => ?_) fun ps z => by cases z
    cases io with
    | false => exact absurd hp List.not_mem_nil
    | true =>
      have z : p = (0, b) := List.mem_singleton.mp hp
      subst z
      exact Ne.symm (hb rfl)
  · cases h : G' c with
    | none => rfl
    | some o =>
      rcases g'.nw c o h with z | z
      · have z : G c = some o := z
        rw [hG] at z; cases z
      · have z : H c = none := z
        rw [hc] at z; cases z
/-- the heaps go on, the lists of the slots stand as they stood -/
theorem Rel.stepS (R : Rel B σ H G env) (g : Gnd B H' G') (hl : Le G G') (hk : ∀ (i : Nat) (d : D) (b : Addr) (xs : List V), env[i]? = some (some d) → B.mu.getD i false = true → σ[i]? = some (some (.ref b)) → H b = some (.lst xs) → G b = none → H' b = H b ∧ G' b = none) : Rel B σ H' G' env := by
  refine ⟨g, R.len, fun i d h hm => ?_, fun i d h hm => ?_, R.inj, R.iok⟩
  · obtain ⟨x, h1, h2⟩ := R.imm i d h hm
    exact ⟨x, h1, Dq.mono hl d x h2⟩
  · obtain ⟨b, h1, h2, h3⟩ := R.mt i d h hm
    obtain ⟨xs, ds, e, h4, a⟩ := h2.ex
    obtain ⟨k1, k2⟩ := hk i d b xs h hm h1 h4 h2.out
    exact ⟨b, h1, h2.step hl k1 k2, h3⟩
theorem Rel.call {b : Addr} (R : Rel B σ H G env) (g' : Gnd (b0 B.K H G false b B.T) H' G') : Le G G' ∧ Rel B σ H' G' env :=
  ⟨g'.g0, R.step (R.gnd.call (fun z => by cases z) g') g'.g0 fun c xs h1 h2 => gnd_keeps g' h1 h2 fun z => Bool.noConfusion z⟩
theorem Rel.gndB (R : Rel B σ H G env) (io : Bool) (b : Addr) : Gnd (b0 B.K H G io b B.T) H G :=
  ⟨R.gnd.sub, Le.refl G, fun _ _ h _ _ => h, fun _ _ h => .inl h, R.gnd.nt, R.gnd.tab, fun _ h => h⟩
/-- behind a call that changes the list of slot i -/
theorem Rel.callI {i : Nat} {b : Addr} {d d1 : D} (R : Rel B σ H G env) (hm : B.mu.getD i false = true) (he : env[i]? = some (some d)) (hs : σ[i]? = some (some (.ref b))) (g' : Gnd (b0 B.K H G true b B.T) H' G') (hw : Own (b0 B.K H G true b B.T) H' G' b d1) :
    Le G G' ∧ Rel B σ H' G' (env.set i (some d1)) := by
  obtain ⟨b', h1, w, h3⟩ := R.mt i d he hm
  rw [hs] at h1
  cases h1
  have hl : i < env.length := (List.getElem?_eq_some_iff.mp he).1
  have ne : ∀ j, B.mu.getD j false = false → j ≠ i := fun j hj z => by rw [z, hm] at hj; cases hj
  have g2 : Gnd B H' G' := R.gnd.call (fun _ => by
    rcases h3 with h3 | ⟨h3, _⟩
    · exact .inl ⟨_, h3, rfl⟩
    · exact .inr h3) g'
  have l : Le G G' := g'.g0
  refine ⟨l, g2, by rw [List.length_set]; exact R.len, fun j e h hj => ?_, fun j e h hj => ?_, fun j k c e e' h h' hj hk q1 q2 => ?_, fun p hp => ?_⟩
  · rw [List.getElem?_set_ne (Ne.symm (ne j hj))] at h
    obtain ⟨x, q1, q2⟩ := R.imm j e h hj
    exact ⟨x, q1, Dq.mono l e x q2⟩
  · by_cases z : j = i
    · subst z
      rw [List.getElem?_set_self hl] at h
      cases h
      exact ⟨b, hs, ⟨hw.ex, hw.out⟩, h3⟩
    · rw [List.getElem?_set_ne (Ne.symm z)] at h
      obtain ⟨c, q1, q2, q3⟩ := R.mt j e h hj
      have hc : c ≠ b := fun zc => z (R.inj j i b e d h he hj hm (zc ▸ q1) hs)
      obtain ⟨xs, ds, _, q4, _⟩ := q2.ex
      obtain ⟨k1, k2⟩ := gnd_keeps g' q4 q2.out fun _ => hc
      exact ⟨c, q1, q2.step l k1 k2, q3⟩
  · have fb : ∀ (j : Nat) (e : D), (env.set i (some d1))[j]? = some (some e) → ∃ e', env[j]? = some (some e') := fun j e h => by
      by_cases z : j = i
      · exact ⟨d, z ▸ he⟩
      · rw [List.getElem?_set_ne (Ne.symm z)] at h
        exact ⟨e, h⟩
    obtain ⟨e1, z1⟩ := fb j e h
    obtain ⟨e2, z2⟩ := fb k e' h'
    exact R.inj j k c e1 e2 z1 z2 hj hk q1 q2
  · obtain ⟨q1, q2, e, q3⟩ := R.iok p hp
    refine ⟨q1, q2, ?_⟩
    by_cases z : p.1 = i
    · exact ⟨d1, by rw [z]; exact List.getElem?_set_self hl⟩
    · exact ⟨e, by rw [List.getElem?_set_ne (Ne.symm z)]; exact q3⟩
theorem Rel.freshC {c : Addr} (R : Rel B σ H G env) (hc : H c = none) (e' : ME) (h : ∀ (j : Nat) (d : D), e'[j]? = some (some d) → ∃ d' : D, env[j]? = some (some d')) : Fresh B σ e' c := by
  refine ⟨R.gnd.keep c hc, fun i d h1 hm z => ?_⟩
  obtain ⟨d', h2⟩ := h i d h1
  exact (R.fresh hc).no i d' h2 hm z
end
def mCall (m : List D → Rs) (a : M (List D)) : M D := bnd a fun ds => match m ds with
  | .ok d _ => ret d
  | _ => bad
/-- the first argument a list of slot i that the def changes -/
def mCallI (i : Nat) (m : List D → Rs) (a : M (List D)) : M D := fun env => match env[i]? with
  | some (some _) => bnd a (fun ds env' => match env'[i]? with
    | some (some d0) => (match m (d0 :: ds) with
      | .ok d (some d1) => .ok d (env'.set i (some d1))
      | _ => .bad)
    | _ => .bad) env
  | _ => .bad
/-- the one argument a new list that the def changes -/
def mCallT (m : List D → Rs) (a : M D) : M D := bnd a fun d0 => match m [d0] with
  | .ok d _ => ret d
  | _ => bad
section
variable {X : Cx} {B : Bd} {k : Nat} {f : Addr} {fd : FuncData} {ps : List Str} {m : List D → Rs} {x : Str} {p pos : Pos} {e : Expr} {es : List Expr} {ga : M (List D)} {g : M D} {own : Bool}
theorem e_call (hK : B.K = X.K) (F : FnG X.prog X.w X.K X.mg X.base k f fd ps (spM B.K B.T false false m)) (hr : RoomG k X.A) (hm : X.mg x = some (.ref f)) (hk : PySem.W.keepIn X.K (.ref f) = true) (hb : Binds X.K fd ps []) (ha : PA X (e :: es) (tA B ga)) (hg : Gl X x := by rfl)
    (hdb : (x == ("__debug__" : Str)) = false := by decide) (he : starEach (e :: es) X.env = (false, eval e X.env) :: starEach es X.env := by rfl) (hpl : (backTo pos (starEach es X.env)).any (·.1) = false := by rfl) : PE X (.Call (.Name x p) (e :: es) [] pos) (tE B (mCall m ga)) :=
  PE.imp (pe_callG F hr hg hm hk hb ha hdb he hpl) fun σ H Q ⟨G, env, R, gd⟩ => ⟨G, env, R, (good_bnd gd).imp fun ds e1 q xs H1 G1 l1 R1 r1 => by
    refine ⟨G1, 0, ds, by rw [List.append_nil]; exact .plain r1, R1.gndB false 0, ?_⟩
    cases hm' : m ds with
    | bad => rw [hm'] at q; exact q.elim
    | exc y => rw [hm'] at q; exact q.elim
    | ok d o =>
      rw [hm'] at q
      intro H2 G2 g2 _
      obtain ⟨l2, R2⟩ := R1.call g2
      rw [if_neg Bool.false_ne_true]
      exact fun y hy => q y H2 G2 (l1.trans l2) R2 hy⟩
theorem o_call (hK : B.K = X.K) (F : FnG X.prog X.w X.K X.mg X.base k f fd ps (spM B.K B.T false true m)) (hr : RoomG k X.A) (hm : X.mg x = some (.ref f)) (hk : PySem.W.keepIn X.K (.ref f) = true) (hb : Binds X.K fd ps []) (ha : PA X (e :: es) (tA B ga)) (hg : Gl X x := by rfl)
    (hdb : (x == ("__debug__" : Str)) = false := by decide) (he : starEach (e :: es) X.env = (false, eval e X.env) :: starEach es X.env := by rfl) (hpl : (backTo pos (starEach es X.env)).any (·.1) = false := by rfl) : PE X (.Call (.Name x p) (e :: es) [] pos) (tO B (mCall m ga)) :=
  PE.imp (pe_callG F hr hg hm hk hb ha hdb he hpl) fun σ H Q ⟨G, env, R, gd⟩ => ⟨G, env, R, (good_bnd gd).imp fun ds e1 q xs H1 G1 l1 R1 r1 => by
    refine ⟨G1, 0, ds, by rw [List.append_nil]; exact .plain r1, R1.gndB false 0, ?_⟩
    cases hm' : m ds with
    | bad => rw [hm'] at q; exact q.elim
    | exc y => rw [hm'] at q; exact q.elim
    | ok d o =>
      rw [hm'] at q
      intro H2 G2 g2 _
      obtain ⟨l2, R2⟩ := R1.call g2
      rw [if_pos rfl]
      exact fun c hw hc => q c H2 G2 (l1.trans l2) R2 ⟨hw.ex, hw.out⟩ (R1.fresh hc)⟩
theorem set_bound {env : ME} {i : Nat} {d0 d1 : D} (he : env[i]? = some (some d0)) : ∀ (j : Nat) (d : D), (env.set i (some d1))[j]? = some (some d) → ∃ d' : D, env[j]? = some (some d') := fun j d h => by
  by_cases z : j = i
  · exact ⟨d0, z ▸ he⟩
  · rw [List.getElem?_set_ne (Ne.symm z)] at h
    exact ⟨d, h⟩
theorem callI_imp {i : Nat} {σ : L2.St} {H : Hp} {Q : VK} {K : PySem.W.Frag} (hmu : B.mu.getD i false = true) (k1 : (own = true → tO B (mCallI i m ga) σ H Q) ∧ (own = false → tE B (mCallI i m ga) σ H Q)) :
    tCall (spM B.K B.T true own m) [] E0 (tCons (tVar i) (tA B ga)) σ H Q := by
  have main : ∀ (G : Hp) (env : ME) (kk : D → ME → Prop), Rel B σ H G env → Good B (mCallI i m ga env) kk →
      (∀ d e2, kk d e2 → ∀ (H1 G1 : Hp) (e1 : ME) (b : Addr) (d0 d1 : D) (H2 G2 : Hp), Rel B σ H1 G1 e1 → Le G G2 → Rel B σ H2 G2 e2 → e1[i]? = some (some d0) → e2 = e1.set i (some d1) → Gnd (b0 B.K H1 G1 true b B.T) H2 G2 →
        (if own = true then ∀ c, Own (b0 B.K H1 G1 true b B.T) H2 G2 c d → H1 c = none → Q (.ref c) H2 else ∀ x, Dq B.K G2 x d → Q x H2)) →
      tCall (spM B.K B.T true own m) [] E0 (tCons (tVar i) (tA B ga)) σ H Q := fun G env kk R gd fin => by
    unfold mCallI at gd
    cases h0 : env[i]? with
    | none => simp only [h0] at gd; exact gd.elim
    | some o =>
      cases o with
      | none => simp only [h0] at gd; exact gd.elim
      | some dd =>
        simp only [h0] at gd
        obtain ⟨b, hs, _, _⟩ := R.mt i dd h0 hmu
        refine ⟨.ref b, hs, G, env, R, (good_bnd gd).imp fun ds e1 q xs H1 G1 l1 R1 r1 => ?_⟩
        cases h1 : e1[i]? with
        | none => simp only [h1] at q; exact q.elim
        | some o =>
          cases o with
          | none => simp only [h1] at q; exact q.elim
          | some d0 =>
            simp only [h1] at q
            obtain ⟨b', hs', w0, _⟩ := R1.mt i d0 h1 hmu
            rw [hs] at hs'
            cases hs'
            refine ⟨G1, b, d0 :: ds, by rw [List.append_nil]; exact .io ⟨w0.ex, w0.out⟩ r1, R1.gndB true b, ?_⟩
            cases hm' : m (d0 :: ds) with
            | bad => simp only [hm'] at q; exact q.elim
            | exc y => simp only [hm'] at q; exact q.elim
            | ok d o =>
              cases o with
              | none => simp only [hm'] at q; exact q.elim
              | some d1 =>
                simp only [hm'] at q
                intro H2 G2 g2 hio
                obtain ⟨d2, e2, w2⟩ := hio rfl
                cases e2
                obtain ⟨l2, R2⟩ := R1.callI hmu h1 hs g2 w2
                exact fin d _ q H1 G1 e1 b d0 d1 H2 G2 R1 (l1.trans l2) R2 h1 rfl g2
  cases ho : own with
  | false =>
    obtain ⟨G, env, R, gd⟩ := k1.2 ho
    rw [ho] at main
    refine main G env _ R gd fun d e2 q H1 G1 e1 b d0 d1 H2 G2 R1 l R2 h1 he g2 => ?_
    rw [if_neg Bool.false_ne_true]
    exact fun x hx => q x H2 G2 l R2 hx
  | true =>
    obtain ⟨G, env, R, gd⟩ := k1.1 ho
    rw [ho] at main
    refine main G env _ R gd fun d e2 q H1 G1 e1 b d0 d1 H2 G2 R1 l R2 h1 he g2 => ?_
    rw [if_pos rfl]
    exact fun c hw hc => q c H2 G2 l R2 ⟨hw.ex, hw.out⟩ (R1.freshC hc e2 (by rw [he]; exact set_bound h1))
theorem e_callI {y : Str} {py : Pos} (i : Nat) (hK : B.K = X.K) (F : FnG X.prog X.w X.K X.mg X.base k f fd ps (spM B.K B.T true false m)) (hr : RoomG k X.A) (hm : X.mg x = some (.ref f)) (hk : PySem.W.keepIn X.K (.ref f) = true) (hb : Binds X.K fd ps []) (ha : PA X es (tA B ga))
    (hmu : B.mu.getD i false = true := by rfl) (hg : Gl X x := by rfl) (hN : X.N[i]? = some y := by rfl) (hv : Vis X.env.scope y := by first | exact Or.inl rfl | exact Or.inr (Or.inl rfl) | exact Or.inr (Or.inr rfl)) (hd : (y == ("__debug__" : Str)) = false := by decide) (hcd : (y == ("__classdict__" : Str)) = false := by decide)
    (hdb : (x == ("__debug__" : Str)) = false := by decide) (hst : starEach (.Name y py :: es) X.env = (false, eval (.Name y py) X.env) :: starEach es X.env := by rfl) (hpl : (backTo pos (starEach es X.env)).any (·.1) = false := by rfl) :
    PE X (.Call (.Name x p) (.Name y py :: es) [] pos) (tE B (mCallI i m ga)) :=
  PE.imp (pe_callG F hr hg hm hk hb (pa_cons (pe_var hN hv hd hcd) ha hst) hdb hst hpl) fun σ H Q q => callI_imp (K := X.K) hmu ⟨fun z => Bool.noConfusion z, fun _ => q⟩
/-- the one argument a new list -/
theorem e_callT (hK : B.K = X.K) (F : FnG X.prog X.w X.K X.mg X.base k f fd ps (spM B.K B.T true false m)) (hr : RoomG k X.A) (hm : X.mg x = some (.ref f)) (hk : PySem.W.keepIn X.K (.ref f) = true) (hb : Binds X.K fd ps []) (ha : PE X e (tO B g)) (hg : Gl X x := by rfl)
    (hdb : (x == ("__debug__" : Str)) = false := by decide) (he : starEach [e] X.env = (false, eval e X.env) :: starEach [] X.env := by rfl) (hpl : (backTo pos (starEach [] X.env)).any (·.1) = false := by rfl) : PE X (.Call (.Name x p) [e] [] pos) (tE B (mCallT m g)) :=
  PE.imp (pe_callG F hr hg hm hk hb (pa_cons ha pa_nil he) hdb he hpl) fun σ H Q ⟨G, env, R, gd⟩ => ⟨G, env, R, (good_bnd gd).imp fun d0 e1 q b H1 G1 l1 R1 w0 f0 => by
    refine ⟨G1, b, [d0], .io ⟨w0.ex, w0.out⟩ .nil, R1.gndB true b, ?_⟩
    cases hm' : m [d0] with
    | bad => rw [hm'] at q; exact q.elim
    | exc y => rw [hm'] at q; exact q.elim
    | ok d o =>
      rw [hm'] at q
      intro H2 G2 g2 _
      rw [if_neg Bool.false_ne_true]
      have R2 : Rel B σ H2 G2 e1 := by
        refine R1.stepS (R1.gnd.call (fun _ => .inr f0.h0) g2) g2.g0 fun i d c xs h1 h2 h3 h4 h5 => ?_
        exact gnd_keeps g2 h4 h5 fun _ z => f0.no i d h1 h2 (z ▸ h3)
      exact fun y hy => q y H2 G2 (l1.trans g2.g0) R2 hy⟩
end
end Mir
/-! The mirror's list comprehensions. -/
namespace Mir
open PySem PySem.Spec PyProof.Rows L2

/-- the ground begun anew: what stands now is kept, but for the lists of io -/
abbrev Bd.re (B : Bd) (H G : Hp) (io : List (Nat × Addr)) : Bd := ⟨B.K, H, G, B.mu, io, B.T, fun _ _ _ _ => False⟩
def ioAll (mu : List Bool) (σ : L2.St) (env : ME) : List (Nat × Addr) := (List.range env.length).filterMap fun i => if mu.getD i false = true then (match env[i]?, σ[i]? with
  | some (some _), some (some (.ref b)) => some (i, b)
  | _, _ => none) else none
theorem mem_ioAll {mu : List Bool} {σ : L2.St} {env : ME} {i : Nat} {b : Addr} {d : D} (h1 : mu.getD i false = true) (h2 : env[i]? = some (some d)) (h3 : σ[i]? = some (some (.ref b))) : (i, b) ∈ ioAll mu σ env := by
  refine List.mem_filterMap.mpr ⟨i, List.mem_range.mpr (List.getElem?_eq_some_iff.mp h2).1, ?_⟩
  rw [if_pos h1, h2, h3]
theorem of_ioAll {mu : List Bool} {σ : L2.St} {env : ME} {p : Nat × Addr} (h : p ∈ ioAll mu σ env) : mu.getD p.1 false = true ∧ (∃ d, env[p.1]? = some (some d)) ∧ σ[p.1]? = some (some (.ref p.2)) := by
  obtain ⟨i, _, e⟩ := List.mem_filterMap.mp h
  by_cases hm : mu.getD i false = true
  · rw [if_pos hm] at e
    cases he : env[i]? with
    | none => simp only [he, reduceCtorEq] at e
    | some o =>
      cases o with
      | none => simp only [he, reduceCtorEq] at e
      | some d =>
        cases hs : σ[i]? with
        | none => simp only [he, hs, reduceCtorEq] at e
        | some o =>
          cases o with
          | none => simp only [he, hs, reduceCtorEq] at e
          | some v =>
            cases v with
            | ref b =>
              simp only [he, hs, Option.some.injEq] at e
              subst e
              exact ⟨hm, ⟨d, he⟩, hs⟩
            | _ => simp only [he, hs, reduceCtorEq] at e
  · rw [if_neg hm] at e; cases e
section
variable {B : Bd} {σ σ' : L2.St} {H G H' G' : Hp} {env env' : ME}
theorem Rel.re (R : Rel B σ H G env) : Rel (B.re H G (ioAll B.mu σ env)) σ H G env := by
  refine ⟨⟨R.gnd.sub, Le.refl G, fun _ _ h _ _ => h, fun _ _ h => .inl h, R.gnd.nt, R.gnd.tab, fun _ h => h⟩, R.len, R.imm, fun i d h hm => ?_, R.inj, fun p hp => ?_⟩
  · obtain ⟨b, h1, h2, _⟩ := R.mt i d h hm
    exact ⟨b, h1, ⟨h2.ex, h2.out⟩, .inl (mem_ioAll hm h h1)⟩
  · obtain ⟨h1, ⟨d, h2⟩, h3⟩ := of_ioAll hp
    exact ⟨h1, h3, d, h2⟩
/-- back to the old ground -/
theorem Rel.un (R : Rel B σ H G env) (R' : Rel (B.re H G (ioAll B.mu σ env)) σ' H' G' env') : Rel B σ' H' G' env' := by
  have io_b : ∀ p ∈ ioAll B.mu σ env, p ∈ B.io ∨ (B.H0 p.2 = none ∧ ∀ q ∈ B.io, q.2 ≠ p.2) := fun p hp => by
    obtain ⟨h1, ⟨d, h2⟩, h3⟩ := of_ioAll hp
    obtain ⟨b, h4, _, h5⟩ := R.mt p.1 d h2 h1
    rw [h3] at h4
    cases h4
    exact h5
  have b_io : ∀ p ∈ B.io, p ∈ ioAll B.mu σ env := fun p hp => by
    obtain ⟨h1, h2, d, h3⟩ := R.iok p hp
    exact mem_ioAll h1 h3 h2
  refine ⟨⟨R'.gnd.sub, R.gnd.g0.trans R'.gnd.g0, fun a o h h1 h2 => ?_, fun a o h => ?_, R'.gnd.nt, R'.gnd.tab, fun a h => R.gnd.keep a (R'.gnd.keep a h)⟩, R'.len, R'.imm, fun i d h hm => ?_, R'.inj, fun p hp => R'.iok p (b_io p hp)⟩
  · refine R'.gnd.fr a o (R.gnd.fr a o h h1 h2) (fun p hp z => ?_) h2
    rcases io_b p hp with q | ⟨q, _⟩
    · exact h1 p q z
    · rw [z, h] at q; cases q
  · rcases R'.gnd.nw a o h with z | z
    · exact R.gnd.nw a o z
    · exact .inr (R.gnd.keep a z)
  · obtain ⟨b, h1, h2, h3⟩ := R'.mt i d h hm
    refine ⟨b, h1, ⟨h2.ex, h2.out⟩, ?_⟩
    rcases h3 with h3 | ⟨h3, _⟩
    · exact io_b (i, b) h3
    · refine .inr ⟨R.gnd.keep b h3, fun p hp z => ?_⟩
      obtain ⟨q1, q2, e, q3⟩ := R.iok p hp
      obtain ⟨c, q4, q5, _⟩ := R.mt p.1 e q3 q1
      rw [q2] at q4
      cases q4
      obtain ⟨xs, _, _, q6, _⟩ := q5.ex
      have h3 : H b = none := h3
      rw [z, h3] at q6
      cases q6
/-- a list that no slot holds stands as it stood -/
theorem Rel.stays (R : Rel B σ H G env) (R' : Rel (B.re H G (ioAll B.mu σ env)) σ' H' G' env') {c : Addr} {xs : List V} (hc : H c = some (.lst xs)) (hG : G c = none) (hf : ∀ i d, env[i]? = some (some d) → B.mu.getD i false = true → σ[i]? ≠ some (some (.ref c))) : H' c = some (.lst xs) ∧ G' c = none := by
  refine ⟨R'.gnd.fr c _ hc (fun p hp z => ?_) (fun ps z => by cases z), ?_⟩
  · obtain ⟨h1, ⟨d, h2⟩, h3⟩ := of_ioAll hp
    exact hf p.1 d h2 h1 (z ▸ h3)
  · cases h : G' c with
    | none => rfl
    | some o =>
      rcases R'.gnd.nw c o h with z | z
      · have z : G c = some o := z
        rw [hG] at z; cases z
      · have z : H c = none := z
        rw [hc] at z; cases z
/-- a list that no slot holds changes -/
theorem Rel.other (R : Rel B σ H G env) {c : Addr} {xs ys : List V} (hc : H c = some (.lst xs)) (hG : G c = none) (h0 : B.H0 c = none) (hf : ∀ (i : Nat) (d : D), env[i]? = some (some d) → B.mu.getD i false = true → σ[i]? ≠ some (some (.ref c))) : Rel B σ (upd H c (.lst ys)) G env := by
  have nb : ∀ {a o}, G a = some o → a ≠ c := fun {a o} h z => by rw [z, hG] at h; cases h
  refine R.stepS ⟨fun a o h => by rw [upd_ne (nb h)]; exact R.gnd.sub a o h, R.gnd.g0, fun a o h k1 k2 => ?_, R.gnd.nw, R.gnd.nt, fun P hP => ?_, fun a h => ?_⟩ (Le.refl G) fun i d b xs' h1 h2 h3 h4 h5 => ⟨upd_ne (fun z => hf i d h1 h2 (z ▸ h3)), h5⟩
  · have z : a ≠ c := fun z => by rw [z, h0] at h; cases h
    rw [upd_ne z]
    exact R.gnd.fr a o h k1 k2
  · exact (R.gnd.tab P hP).ext fun b u e hn => by rw [upd_ne (ne_of e hc (hn _))]; exact e
  · by_cases z : a = c
    · subst z; rw [upd_same] at h; cases h
    · rw [upd_ne z] at h; exact R.gnd.keep a h
def wipeE (env : ME) : List Nat → ME
  | [] => env
  | v :: vs => (wipeE env vs).set v none
theorem wipeE_get (env : ME) : ∀ (vs : List Nat) (j : Nat) (d : D), (wipeE env vs)[j]? = some (some d) → env[j]? = some (some d) ∧ j ∉ vs
  | [], j, d, h => ⟨h, by simp⟩
  | v :: vs, j, d, h => by
    unfold wipeE at h
    by_cases z : v = j
    · subst z
      by_cases hl : v < (wipeE env vs).length
      · rw [List.getElem?_set_self hl] at h; cases h
      · rw [List.getElem?_eq_none (by rw [List.length_set]; omega)] at h; cases h
    · rw [List.getElem?_set_ne z] at h
      obtain ⟨h1, h2⟩ := wipeE_get env vs j d h
      exact ⟨h1, by simp only [List.mem_cons, not_or]; exact ⟨fun e => z e.symm, h2⟩⟩
theorem wipeE_out (env : ME) : ∀ (vs : List Nat) (j : Nat), j ∉ vs → (wipeE env vs)[j]? = env[j]?
  | [], j, h => rfl
  | v :: vs, j, h => by
    simp only [List.mem_cons, not_or] at h
    unfold wipeE
    rw [List.getElem?_set_ne (fun z => h.1 z.symm), wipeE_out env vs j h.2]
theorem wipeE_len (env : ME) : ∀ vs : List Nat, (wipeE env vs).length = env.length
  | [] => rfl
  | v :: vs => by unfold wipeE; rw [List.length_set, wipeE_len env vs]
theorem Rel.wipe (R : Rel B σ H G env) (us : List Nat) (hu : ∀ v ∈ us, B.mu.getD v false = false) : Rel B (L2.wipe σ us) H G (wipeE env us) := by
  have nu : ∀ j, B.mu.getD j false = true → j ∉ us := fun j h z => by rw [hu j z] at h; cases h
  refine ⟨R.gnd, by rw [wipeE_len, wipe_length]; exact R.len, fun i d h hm => ?_, fun i d h hm => ?_, fun i j b d e h h' hi hj h1 h2 => ?_, fun p hp => ?_⟩
  · obtain ⟨h1, h2⟩ := wipeE_get env us i d h
    rw [wipe_out h2]
    exact R.imm i d h1 hm
  · obtain ⟨h1, h2⟩ := wipeE_get env us i d h
    rw [wipe_out h2]
    exact R.mt i d h1 hm
  · rw [wipe_out (nu i hi)] at h1
    rw [wipe_out (nu j hj)] at h2
    exact R.inj i j b d e (wipeE_get env us i d h).1 (wipeE_get env us j e h').1 hi hj h1 h2
  · obtain ⟨h1, h2, d, h3⟩ := R.iok p hp
    refine ⟨h1, ?_, d, ?_⟩
    · rw [wipe_out (nu _ h1)]; exact h2
    · rw [wipeE_out env us _ (nu _ h1)]; exact h3
/-- the block's end: its own slots are as they were -/
def unwipe (us : List Nat) (env env' : ME) : ME := (List.range env.length).map fun i => if i ∈ us then env.getD i none else env'.getD i none
theorem getD_some {env : ME} {j : Nat} {d : D} (h : env.getD j none = some d) : env[j]? = some (some d) := by
  rw [List.getD_eq_getElem?_getD] at h
  cases e : env[j]? with
  | none => rw [e] at h; cases h
  | some o => rw [e] at h; exact congrArg some h
theorem unwipe_get {us : List Nat} {i : Nat} {d : D} (h : (unwipe us env env')[i]? = some (some d)) : (i ∈ us ∧ env[i]? = some (some d)) ∨ (i ∉ us ∧ env'[i]? = some (some d)) := by
  unfold unwipe at h
  rw [List.getElem?_map] at h
  obtain ⟨j, h1, h2⟩ := Option.map_eq_some_iff.mp h
  obtain ⟨h3, h4⟩ := List.getElem?_eq_some_iff.mp h1
  rw [List.getElem_range] at h4
  rw [← h4] at h2
  by_cases hu : i ∈ us
  · rw [if_pos hu] at h2
    exact .inl ⟨hu, getD_some h2⟩
  · rw [if_neg hu] at h2
    exact .inr ⟨hu, getD_some h2⟩
theorem unwipe_out {us : List Nat} {i : Nat} {d : D} (hi : i < env.length) (hu : i ∉ us) (h : env'[i]? = some (some d)) : (unwipe us env env')[i]? = some (some d) := by
  unfold unwipe
  rw [List.getElem?_map, List.getElem?_range hi]
  show some (if i ∈ us then _ else _) = _
  rw [if_neg hu, List.getD_eq_getElem?_getD, h]
  rfl
theorem Rel.unwipe {us : List Nat} (R0 : Rel B σ H G env) (l : Le G G') (hu : ∀ v ∈ us, B.mu.getD v false = false) (R : Rel B (L2.wipe σ us) H' G' env') : Rel B σ H' G' (Mir.unwipe us env env') := by
  have nu : ∀ j, B.mu.getD j false = true → j ∉ us := fun j h z => by rw [hu j z] at h; cases h
  have out : ∀ j d, B.mu.getD j false = true → (Mir.unwipe us env env')[j]? = some (some d) → env'[j]? = some (some d) := fun j d hj h => by
    rcases unwipe_get h with ⟨h1, _⟩ | ⟨_, h1⟩
    · exact absurd h1 (nu j hj)
    · exact h1
  refine ⟨R.gnd, by unfold Mir.unwipe; rw [List.length_map, List.length_range]; exact R0.len, fun i d h hm => ?_, fun i d h hm => ?_, fun i j b d e h h' hi hj h1 h2 => ?_, fun p hp => ?_⟩
  · rcases unwipe_get h with ⟨_, h1⟩ | ⟨h0, h1⟩
    · obtain ⟨x, q1, q2⟩ := R0.imm i d h1 hm
      exact ⟨x, q1, Dq.mono l d x q2⟩
    · obtain ⟨x, q1, q2⟩ := R.imm i d h1 hm
      rw [wipe_out h0] at q1
      exact ⟨x, q1, q2⟩
  · obtain ⟨b, q1, q2, q3⟩ := R.mt i d (out i d hm h) hm
    rw [wipe_out (nu i hm)] at q1
    exact ⟨b, q1, q2, q3⟩
  · exact R.inj i j b d e (out i d hi h) (out j e hj h') hi hj (by rw [wipe_out (nu i hi)]; exact h1) (by rw [wipe_out (nu j hj)]; exact h2)
  · obtain ⟨h1, h2, d, h3⟩ := R.iok p hp
    rw [wipe_out (nu _ h1)] at h2
    obtain ⟨_, _, d0, h4⟩ := R0.iok p hp
    exact ⟨h1, h2, d, unwipe_out (List.getElem?_eq_some_iff.mp h4).1 (nu _ h1) h3⟩
end
theorem wipe_off {us : List Nat} {σ σ2 : L2.St} (h : Off us (L2.wipe σ us) σ2) : L2.wipe σ2 us = L2.wipe σ us := by
  refine List.ext_getElem? fun j => ?_
  by_cases hj : j ∈ us
  · have key : ∀ (τ : L2.St), (L2.wipe τ us)[j]? = if j < τ.length then some none else none := fun τ => by
      by_cases hl : j < τ.length
      · rw [if_pos hl]
        cases e : (L2.wipe τ us)[j]? with
        | none =>
          rw [List.getElem?_eq_none_iff, wipe_length] at e
          omega
        | some o =>
          cases o with
          | none => rfl
          | some v => exact absurd hj (wipe_some e).2
      · rw [if_neg hl, List.getElem?_eq_none (by rw [wipe_length]; omega)]
    rw [key σ2, key σ, h.1, wipe_length]
  · rw [wipe_out hj, h.2 j hj]

/-- the items that a comprehension gathers -/
def mCol (us : List Nat) (g : D → M Unit) (t : M Bool) (el : M D) : List D → List D → M (List D)
  | [], acc => ret acc
  | d :: r, acc => bnd (g d) fun _ => bnd t fun b => if b = true then bnd el fun y => if fits acc.length = true then (fun e => mCol us g t el r (acc ++ [y]) (wipeE e us)) else bad
    else fun e => mCol us g t el r acc (wipeE e us)
def mComp (us : List Nat) (src : M (List D)) (g : D → M Unit) (t : M Bool) (el : M D) : M D := bnd src fun ds => fun env => match mCol us g t el ds [] (wipeE env us) with
  | .ok acc env' => .ok (.list acc) (unwipe us env env')
  | _ => .bad
/-- no clause -/
def mYes : M Bool := ret true
section
variable {X : Cx} {B : Bd}
theorem ts_nil : PTs X [] (tT B mYes) := ⟨fun pins s σ H Q I ⟨G, env, R, g⟩ => pts_nil.run pins s σ H Q I (g H G (Le.refl G) R)⟩
theorem ts_one {c : Expr} {t : M Bool} (h : PT X c (tT B t)) : PTs X [c] (tT B t) := pts_one h
/-- what goes well without an exception -/
def FineD {α : Type} (r : Res α) (k : α → ME → Prop) : Prop := match r with
  | .ok a e => k a e
  | _ => False
theorem FineD.good {α : Type} {r : Res α} {k : α → ME → Prop} (h : FineD r k) : Good B r k := by
  cases r with
  | ok a e => exact h
  | exc _ _ => exact h.elim
  | bad => exact h.elim
theorem fine_bnd {α β : Type} {m : M α} {f : α → M β} {e : ME} {k : β → ME → Prop} (h : FineD (bnd m f e) k) : FineD (m e) fun a e' => FineD (f a e') k := by
  unfold bnd at h
  cases hm : m e with
  | ok a e' => rw [hm] at h; exact h
  | exc _ _ => rw [hm] at h; exact h
  | bad => rw [hm] at h; exact h
/-- the readings of a comprehension's parts, whatever the ground -/
def cG (B : Bd) (us : List Nat) (g : D → M Unit) : TG := fun v σ H Q => ∃ H0 G0 io, tGL (B.re H0 G0 io) us g v σ H Q
def cT (B : Bd) (t : M Bool) : TT := fun σ H Q => ∃ H0 G0 io, tT (B.re H0 G0 io) t σ H Q
def cE (B : Bd) (el : M D) : TE := fun σ H Q => ∃ H0 G0 io, tE (B.re H0 G0 io) el σ H Q
theorem comp_imp {src : M (List D)} {g : D → M Unit} {t : M Bool} {el : M D} {us : List Nat} {ow : List (Str × Nat)} (hus : ow.map (·.2) = us) (hmu : ∀ v ∈ us, B.mu.getD v false = false) (σ : L2.St) (H : Hp) (Q : VK) (q0 : tO B (mComp us src g t el) σ H Q) : tLc (tI B src) (cG B us g) (cT B t) (cE B el) (ow.map (·.2)) σ H Q := by
  obtain ⟨G, env, R, gd⟩ := q0
  refine ⟨G, env, R, (good_bnd gd).imp fun ds e1 k J H1 G1 l1 R1 itr => ?_⟩
  intro Dl hD
  rw [hus]
  -- the mirror went well
  have kf : FineD (mCol us g t el ds [] (wipeE e1 us)) fun acc env' => ∀ b H' G', Le G G' → Rel B σ H' G' (unwipe us e1 env') → Own B H' G' b (.list acc) → Fresh B σ (unwipe us e1 env') b → Q (.ref b) H' := by
    cases hm : mCol us g t el ds [] (wipeE e1 us) with
    | ok acc env' => simp only [hm] at k; exact k
    | exc _ _ => simp only [hm] at k; exact k.elim
    | bad => simp only [hm] at k; exact k.elim
  have free : ∀ (i : Nat) (d : D), e1[i]? = some (some d) → B.mu.getD i false = true → σ[i]? ≠ some (some (.ref Dl)) := (R1.fresh hD).no
  have nu : ∀ j, B.mu.getD j false = true → j ∉ us := fun j h z => by rw [hmu j z] at h; cases h
  refine ⟨fun i m H2 => i ≤ ds.length ∧ m = ds.length - i ∧ ∃ G2 env2 acc accD, Le G1 G2 ∧ Rel B (L2.wipe σ us) H2 G2 env2 ∧ H2 Dl = some (.lst acc) ∧ G2 Dl = none ∧ DqAll B.K G2 acc accD ∧
    (∀ (i : Nat) (d : D), env2[i]? = some (some d) → B.mu.getD i false = true → σ[i]? ≠ some (some (.ref Dl))) ∧
    FineD (mCol us g t el (ds.drop i) accD env2) fun acc env' => ∀ b H' G', Le G G' → Rel B σ H' G' (unwipe us e1 env') → Own B H' G' b (.list acc) → Fresh B σ (unwipe us e1 env') b → Q (.ref b) H',
    ⟨ds.length, Nat.zero_le _, rfl, G1, wipeE e1 us, [], [], Le.refl G1, (R1.laid hD).wipe us hmu, upd_same, R1.gnd.sub.none hD, .nil, fun i d h hm => free i d (wipeE_get e1 us i d h).1 hm, kf⟩, ?_⟩
  rintro i m H2 ⟨hil, rfl, G2, env2, acc, accD, l2, R2, hDl, hG2, hacc, fr2, k2⟩
  obtain ⟨i1, i2⟩ := itr i (L2.wipe σ us) H2 G2 env2 l2 R2
  by_cases hi' : i < ds.length
  · have e : ds.drop i = ds[i] :: ds.drop (i + 1) := List.drop_eq_getElem_cons hi'
    rw [e] at k2
    obtain ⟨g1, g2⟩ := i2 ds[i] (List.getElem?_eq_getElem hi')
    refine .inr ⟨g1, fun H5 => i + 1 ≤ ds.length ∧ ds.length - (i + 1) = ds.length - (i + 1) ∧ ∃ G2 env2 acc accD, Le G1 G2 ∧ Rel B (L2.wipe σ us) H5 G2 env2 ∧ H5 Dl = some (.lst acc) ∧ G2 Dl = none ∧ DqAll B.K G2 acc accD ∧
      (∀ (i : Nat) (d : D), env2[i]? = some (some d) → B.mu.getD i false = true → σ[i]? ≠ some (some (.ref Dl))) ∧
      FineD (mCol us g t el (ds.drop (i + 1)) accD env2) fun acc env' => ∀ b H' G', Le G G' → Rel B σ H' G' (unwipe us e1 env') → Own B H' G' b (.list acc) → Fresh B σ (unwipe us e1 env') b → Q (.ref b) H',
      fun H5 z => ⟨ds.length - (i + 1), by omega, z⟩, fun x H3 hy => ?_⟩
    obtain ⟨G3, l3, R3, hd, kH, kG⟩ := g2 x H3 hy
    have hD3 : H3 Dl = some (.lst acc) := kH _ _ hDl
    have hG3 : G3 Dl = none := by
      cases h : G3 Dl with
      | none => rfl
      | some o =>
        rcases kG Dl o h with z | z
        · rw [hG2] at z; cases z
        · rw [hDl] at z; cases z
    have R3' := R3.re
    have fr3 : ∀ (i : Nat) (d : D), env2[i]? = some (some d) → B.mu.getD i false = true → (L2.wipe σ us)[i]? ≠ some (some (.ref Dl)) := fun i d h hm => by
      rw [wipe_out (nu i hm)]
      exact fr2 i d h hm
    refine ⟨H3, G3, ioAll B.mu (L2.wipe σ us) env2, G3, env2, ds[i], R3', hd, (fine_bnd k2).good.imp fun _ e4 k4 σ4 H4 G4 o4 l4 R4 => ⟨wipe_off o4, H3, G3, ioAll B.mu (L2.wipe σ us) env2, G4, e4, R4, (fine_bnd k4).good.imp fun b e5 k5 H5 G5 l5 R5 => ?_⟩⟩
    have back : ∀ {H' G' : Hp} {e' : ME}, Rel (B.re H3 G3 (ioAll B.mu (L2.wipe σ us) env2)) σ4 H' G' e' → Rel B (L2.wipe σ us) H' G' (wipeE e' us) ∧ H' Dl = some (.lst acc) ∧ G' Dl = none ∧ (∀ (i : Nat) (d : D), (wipeE e' us)[i]? = some (some d) → B.mu.getD i false = true → σ[i]? ≠ some (some (.ref Dl))) := fun {H' G' e'} R' => by
      have q := R3.un R'
      obtain ⟨s1, s2⟩ := R3.stays R' hD3 hG3 fr3
      refine ⟨?_, s1, s2, fun i d h hm z => ?_⟩
      · have q2 := q.wipe us hmu
        rw [wipe_off o4] at q2
        exact q2
      · obtain ⟨c, h1, _, h3⟩ := R'.mt i d (wipeE_get e' us i d h).1 hm
        have h4 : (L2.wipe σ us)[i]? = σ4[i]? := by rw [← wipe_off o4, wipe_out (nu i hm)]
        rw [wipe_out (nu i hm)] at h4
        rw [z] at h4
        rw [← h4] at h1
        cases h1
        rcases h3 with h3 | ⟨h3, _⟩
        · obtain ⟨q1, ⟨d', q2⟩, q3⟩ := of_ioAll h3
          exact fr3 i d' q2 q1 q3
        · have h3 : H3 Dl = none := h3
          rw [hD3] at h3
          cases h3
    cases b with
    | false =>
      rw [if_neg Bool.false_ne_true] at k5
      refine iteF ?_
      obtain ⟨q1, q2, q3, q4⟩ := back R5
      have ll := ((l2.trans l3).trans l4).trans l5
      exact ⟨hi', rfl, G5, _, acc, accD, ll, q1, q2, q3, DqAll.mono ((l3.trans l4).trans l5) _ _ hacc, q4, k5⟩
    | true =>
      rw [if_pos rfl] at k5
      refine iteT ?_
      refine ⟨H3, G3, ioAll B.mu (L2.wipe σ us) env2, G5, e5, R5, (fine_bnd k5).good.imp fun y e6 k6 v H6 G6 l6 R6 r6 => ?_⟩
      by_cases hf : fits accD.length = true
      · rw [if_pos hf] at k6
        obtain ⟨q1, q2, q3, q4⟩ := back R6
        have ll := (((l2.trans l3).trans l4).trans l5).trans l6
        have lg := ((l3.trans l4).trans l5).trans l6
        refine ⟨acc, q2, ?_, hi', rfl, G6, _, acc ++ [v], accD ++ [y], ll, ?_, upd_same, q3, DqAll.app (DqAll.mono lg _ _ hacc) (.cons r6 .nil), q4, k6⟩
        · rw [Mir.DqAll.len hacc]
          exact Nat.lt_of_le_of_lt (of_decide_eq_true hf) (by decide)
        · -- the list grows: no slot holds it
          exact q1.other q2 q3 (R1.gnd.keep Dl hD) fun i d h hm => by
            rw [wipe_out (nu i hm)]
            exact q4 i d h hm
      · rw [if_neg hf] at k6
        exact k6.elim
  · have e : ds.drop i = [] := List.drop_eq_nil_of_le (by omega)
    rw [e] at k2
    refine .inl ⟨i1 (by omega), ?_⟩
    have R' := R1.unwipe l2 hmu R2
    have out : ∀ j d, B.mu.getD j false = true → (unwipe us e1 env2)[j]? = some (some d) → env2[j]? = some (some d) := fun j d hj h => by
      rcases unwipe_get h with ⟨h1, _⟩ | ⟨_, h1⟩
      · exact absurd h1 (nu j hj)
      · exact h1
    exact k2 Dl H2 G2 (l1.trans l2) R' ⟨⟨acc, accD, rfl, hDl, hacc⟩, hG2⟩ ⟨R1.gnd.keep Dl hD, fun i d h hm => fr2 i d (out i d hm h) hm⟩
theorem o_comp {elt tg iter : Expr} {ifs : List Expr} {scope : Scope} {ow : List (Str × Nat)} {pos : Pos} {src : M (List D)} {g : D → M Unit} {t : M Bool} {el : M D} (us : List Nat) (hus : ow.map (·.2) = us) (hc : X.calm = true) (hN : X.N.Nodup) (hi : PI X tg iter (tI B src)) (ok : BlkOk X.N X.env.scope scope ow)
    (hmu : ∀ v ∈ us, B.mu.getD v false = false)
    (hg : ∀ (H0 G0 : Hp) (io : List (Nat × Addr)) (s : Shared) (H : Hp) (C : Addr) (cl : List (Str × Addr)) (fp : List Addr), PG (X.blk s H scope (compEnvC scope cl C X.env) fp) tg (tGL (B.re H0 G0 io) us g))
    (ht : ∀ (H0 G0 : Hp) (io : List (Nat × Addr)) (s : Shared) (H : Hp) (C : Addr) (cl : List (Str × Addr)) (fp : List Addr), PTs (X.blk s H scope (compEnvC scope cl C X.env) fp) ifs (tT (B.re H0 G0 io) t))
    (he : ∀ (H0 G0 : Hp) (io : List (Nat × Addr)) (s : Shared) (H : Hp) (C : Addr) (cl : List (Str × Addr)) (fp : List Addr), PE (X.blk s H scope (compEnvC scope cl C X.env) fp) elt (tE (B.re H0 G0 io) el)) (hs : ∀ x, foldedSetIterable iter X.env x = pure x := by intro _; rfl) :
    PE X (.ListComp elt [⟨tg, iter, ifs, 0⟩] scope pos) (tO B (mComp us src g t el)) := by
  -- the readings, whatever the ground
  have hg' : ∀ (s : Shared) (H : Hp) (C : Addr) (cl : List (Str × Addr)) (fp : List Addr), PG (X.blk s H scope (compEnvC scope cl C X.env) fp) tg (cG B us g) := fun s H C cl fp => ⟨fun pins s' σ H' v u Q I r ⟨H0, G0, io, q⟩ => (hg H0 G0 io s H C cl fp).run pins s' σ H' v u Q I r q⟩
  have ht' : ∀ (s : Shared) (H : Hp) (C : Addr) (cl : List (Str × Addr)) (fp : List Addr), PTs (X.blk s H scope (compEnvC scope cl C X.env) fp) ifs (cT B t) := fun s H C cl fp => ⟨fun pins s' σ H' Q I ⟨H0, G0, io, q⟩ => (ht H0 G0 io s H C cl fp).run pins s' σ H' Q I q⟩
  have he' : ∀ (s : Shared) (H : Hp) (C : Addr) (cl : List (Str × Addr)) (fp : List Addr), PE (X.blk s H scope (compEnvC scope cl C X.env) fp) elt (cE B el) := fun s H C cl fp => ⟨fun pins s' σ H' Q I ⟨H0, G0, io, q⟩ => (he H0 G0 io s H C cl fp).run pins s' σ H' Q I q⟩
  exact PE.imp (pe_lc hc hN hi ok hg' ht' he' hs) (comp_imp hus hmu)
/-- name = [..] on one line, the name a local: the list made, stored within -/
theorem s_setC {own : Bool} {i : Nat} {y : Str} {py : Pos} {spos : Pos} {elt tg iter : Expr} {ifs : List Expr} {scope : Scope} {ow : List (Str × Nat)} {pos : Pos} {src : M (List D)} {g : D → M Unit} {t : M Bool} {el : M D} (us : List Nat) (hus : ow.map (·.2) = us) (hc : X.calm = true) (hN : X.N.Nodup) (hi : PI X tg iter (tI B src)) (ok : BlkOk X.N X.env.scope scope ow)
    (hmu : ∀ v ∈ us, B.mu.getD v false = false)
    (hg : ∀ (H0 G0 : Hp) (io : List (Nat × Addr)) (s : Shared) (H : Hp) (C : Addr) (cl : List (Str × Addr)) (fp : List Addr), PG (X.blk s H scope (compEnvC scope cl C X.env) fp) tg (tGL (B.re H0 G0 io) us g))
    (ht : ∀ (H0 G0 : Hp) (io : List (Nat × Addr)) (s : Shared) (H : Hp) (C : Addr) (cl : List (Str × Addr)) (fp : List Addr), PTs (X.blk s H scope (compEnvC scope cl C X.env) fp) ifs (tT (B.re H0 G0 io) t))
    (he : ∀ (H0 G0 : Hp) (io : List (Nat × Addr)) (s : Shared) (H : Hp) (C : Addr) (cl : List (Str × Addr)) (fp : List Addr), PE (X.blk s H scope (compEnvC scope cl C X.env) fp) elt (tE (B.re H0 G0 io) el))
    (hsw : swapsWith (.ListComp elt [⟨tg, iter, ifs, 0⟩] scope pos) (some (.Name y py)) spos.line X.env = pure true)
    (hm : B.mu.getD i false = false := by rfl) (hy : X.N[i]? = some y := by rfl) (hyl : X.env.scope.names.lookup y = some .local := by rfl) (hs : ∀ x, foldedSetIterable iter X.env x = pure x := by intro _; rfl) :
    PS X (.Assign [.Name y py] (.ListComp elt [⟨tg, iter, ifs, 0⟩] scope pos) spos) (tS B own (mSet i (mComp us src g t el))) := by
  have hg' : ∀ (s : Shared) (H : Hp) (C : Addr) (cl : List (Str × Addr)) (fp : List Addr), PG (X.blk s H scope (compEnvC scope cl C X.env) fp) tg (cG B us g) := fun s H C cl fp => ⟨fun pins s' σ H' v u Q I r ⟨H0, G0, io, q⟩ => (hg H0 G0 io s H C cl fp).run pins s' σ H' v u Q I r q⟩
  have ht' : ∀ (s : Shared) (H : Hp) (C : Addr) (cl : List (Str × Addr)) (fp : List Addr), PTs (X.blk s H scope (compEnvC scope cl C X.env) fp) ifs (cT B t) := fun s H C cl fp => ⟨fun pins s' σ H' Q I ⟨H0, G0, io, q⟩ => (ht H0 G0 io s H C cl fp).run pins s' σ H' Q I q⟩
  have he' : ∀ (s : Shared) (H : Hp) (C : Addr) (cl : List (Str × Addr)) (fp : List Addr), PE (X.blk s H scope (compEnvC scope cl C X.env) fp) elt (cE B el) := fun s H C cl fp => ⟨fun pins s' σ H' Q I ⟨H0, G0, io, q⟩ => (he H0 G0 io s H C cl fp).run pins s' σ H' Q I q⟩
  refine PS.imp (ps_setLc hc hN hy hyl hsw hi ok hg' ht' he' hs) fun De σ H ⟨G, env, R, gd⟩ => ?_
  refine comp_imp hus hmu σ H _ ⟨G, env, R, (good_bnd gd).imp fun d e1 k b H1 G1 l1 R1 w f => ?_⟩
  obtain ⟨hl, k⟩ := good_set (good_bnd k)
  obtain ⟨G2, l2, R2, r2⟩ := R1.freeze w f
  exact k _ H1 G2 (l1.trans l2) (R2.set hm r2 (by rw [← R2.len]; exact hl))
end
end Mir
/-! Generator expressions: the code object, the frame, the context of the body. -/
namespace Gx
open PySem PySem.Spec PyProof.Rows L2 GenW
open Mir (TabG CodeO codeO_tbl codeO_lst)

/-- the tables have grown; the rest is kept -/
structure Grown (H H' : Hp) (n : Nat) : Prop where
  fr : ∀ b o, H b = some o → (∀ ps, o ≠ .tbl ps) → H' b = some o
  no : ∀ b, b < n → H b = none → H' b = none
  keep : ∀ b, H' b = none → H b = none
  tab : ∀ P, TabG H P → TabG H' P
theorem Grown.refl (H : Hp) (n : Nat) : Grown H H n := ⟨fun _ _ h _ => h, fun _ _ h => h, fun _ h => h, fun _ h => h⟩
def newH (H : Hp) (P c P' : Addr) (ps : Array Value) : Hp := fun b => if b = P' then some (.tbl #[]) else if b = c then some (CodeO c P') else if b = P then some (.tbl ps) else H b
section
variable {X : Cx} {pins : List (Addr × Obj)} {σ : L2.St} {H : Hp} {s : Shared}
theorem inv_code {P c P' : Addr} {ps more : Array Value} {h' : Heap} {t' : Nat} (I : Inv X pins σ H s) (hP : H P = some (.tbl ps)) (k : ∀ b o, b ≠ P → s.heap.get? b = some o → h'.get? b = some o)
    (hm : h'.get? P = some { cls := .none, data := .fields (ps ++ more) }) (hc : s.heap.objs.size ≤ c) (hP' : s.heap.objs.size ≤ P') (hcd : PySem.W.CodeHd h' c P') (hm' : h'.get? P' = some { cls := .none, data := .fields #[] }) :
    Inv X pins σ (newH H P c P' (ps ++ more)) { s with heap := h', toks := t' } := by
  have hne : c ≠ P' := by
    obtain ⟨o, vs, file, tf, flags, tg, inF, text, tt, e1, _, _, _, _, _, _, _, _, ne⟩ := hcd
    exact ne
  have lt' : ∀ b o, s.heap.get? b = some o → b ≠ c ∧ b ≠ P' := fun b o e => ⟨fun z => by
    rw [z] at e
    exact Nat.lt_irrefl _ (Nat.lt_of_lt_of_le (Heap.lt_size e) hc), fun z => by
    rw [z] at e
    exact Nat.lt_irrefl _ (Nat.lt_of_lt_of_le (Heap.lt_size e) hP')⟩
  have nC : H c = none := I.hok.fresh hc
  have nP' : H P' = none := I.hok.fresh hP'
  have nPc : P ≠ c := ne_of_none hP nC
  have nPP : P ≠ P' := ne_of_none hP nP'
  have at_ : ∀ b, b ≠ P → b ≠ c → b ≠ P' → newH H P c P' (ps ++ more) b = H b := fun b h1 h2 h3 => by
    unfold newH; rw [if_neg h3, if_neg h2, if_neg h1]
  have atP : newH H P c P' (ps ++ more) P = some (.tbl (ps ++ more)) := by
    unfold newH; rw [if_neg nPP, if_neg nPc, if_pos rfl]
  have nP : ∀ b u, H b = some u → (∀ q, u ≠ .tbl q) → b ≠ P := fun b u e q z => by
    rw [z, hP] at e
    exact q ps (Option.some.inj e).symm
  have nN : ∀ b, H b = none → b ≠ P := fun b e z => by
    rw [z, hP] at e
    cases e
  have sm : ∀ b u, H b = some u → b ≠ c ∧ b ≠ P' := fun b u e => ⟨ne_of_none e nC, ne_of_none e nP'⟩
  refine I.step (g' := s.gens) (d' := s.drawn) (ch := []) (fun b hb => absurd hb (by simp)) (fun b o _ _ _ e n => k b o (nN b n) e) (fun b o _ _ _ e n => ⟨o.slots, k b o (nN b n) e⟩)
    (fun b o _ e n => by rw [at_ b (nN b n) (lt' b o e).1 (lt' b o e).2]; exact n) (fun b o _ e => ?_) (fun b xs e => by rw [at_ b (nP b _ e (fun q z => by cases z)) (sm b _ e).1 (sm b _ e).2]; exact e) (fun b o u e => by rw [at_ b (nP b _ e (fun q z => by cases z)) (sm b _ e).1 (sm b _ e).2]; exact e) (fun b qs e => ?_) (fun m hn => ?_) (fun b u e => ?_) I.bare
  · by_cases hb : b = P
    · rw [hb]
      exact ⟨_, hm⟩
    · exact ⟨o, k b o hb e⟩
  · by_cases hb : b = P
    · rw [hb, hP] at e
      cases e
      rw [hb, atP]
      exact ⟨more, rfl⟩
    · rw [at_ b hb (sm b _ e).1 (sm b _ e).2, e]
      exact ⟨#[], by simp⟩
  · obtain ⟨ob, es, ep, ho, r⟩ := hn
    exact ⟨ob, es, ep, k _ ob (nN _ I.free) ho, r⟩
  · by_cases hb1 : b = P'
    · unfold newH at e
      rw [if_pos hb1] at e
      cases e
      rw [hb1]
      exact hm'
    · by_cases hb : b = c
      · unfold newH at e
        rw [if_neg hb1, if_pos hb] at e
        cases e
        rw [hb]
        refine ⟨hcd, ?_, fun h1 h2 hx st => ?_⟩
        · obtain ⟨o, vs, file, tf, flags, tg, inF, text, tt, e1, r⟩ := hcd
          exact ⟨o, e1⟩
        · obtain ⟨o, vs, file, tf, flags, tg, inF, text, tt, e1, r⟩ := hx
          exact ⟨o, vs, file, tf, flags, tg, inF, text, tt, st _ e1, r⟩
      · by_cases hb2 : b = P
        · rw [hb2, atP] at e
          cases e
          rw [hb2]
          exact hm
        · rw [at_ b hb2 hb hb1] at e
          refine (I.hok b u e).stay (fun d v hd q => k d v ?_ q) (fun d q => by rw [at_ d (nP d _ q (fun q z => by cases z)) (sm d _ q).1 (sm d _ q).2]; exact q) fun d xs q => by rw [at_ d (nP d _ q (fun q z => by cases z)) (sm d _ q).1 (sm d _ q).2]; exact q
          rcases hd with z | z
          · rw [z]
            exact hb2
          · exact nP d _ z (fun q z => by cases z)
/-- a table has one entry more, a new code object with an empty table -/
theorem tab_more {H : Hp} {P c P' : Addr} {ps : Array Value} {pos : Pos} (hP : H P = some (.tbl ps)) (ht : TriplesOk ps.toList) (nC : H c = none) (nP' : H P' = none) (hne : c ≠ P') {Q : Addr} (t : TabG H Q) :
    TabG (newH H P c P' (ps ++ #[rawInt pos.line, rawInt pos.col, .ref c])) Q := by
  have nPc : P ≠ c := ne_of_none hP nC
  have nPP : P ≠ P' := ne_of_none hP nP'
  have at_ : ∀ b u, H b = some u → (∀ q, u ≠ .tbl q) → newH H P c P' (ps ++ #[rawInt pos.line, rawInt pos.col, .ref c]) b = some u := fun b u e hn => by
    unfold newH
    rw [if_neg (ne_of_none e nP'), if_neg (ne_of_none e nC), if_neg (fun z => by rw [z, hP] at e; cases e; exact hn _ rfl)]
    exact e
  have atC : newH H P c P' (ps ++ #[rawInt pos.line, rawInt pos.col, .ref c]) c = some (CodeO c P') := by
    unfold newH; rw [if_neg hne, if_pos rfl]
  have tP' : TabG (newH H P c P' (ps ++ #[rawInt pos.line, rawInt pos.col, .ref c])) P' := .nil (by unfold newH; rw [if_pos rfl])
  induction t with
  | @mk Q qs f g h1 h2 h3 h4 ih =>
    by_cases hQ : Q = P
    · subst hQ
      rw [hP] at h1
      cases h1
      have eL : (ps ++ #[rawInt pos.line, rawInt pos.col, Value.ref c]).toList = ps.toList ++ [rawInt pos.line, rawInt pos.col, .ref c] := by simp
      have dec : ∀ p cv, codeAmong p (ps ++ #[rawInt pos.line, rawInt pos.col, Value.ref c]).toList = some cv → codeAmong p ps.toList = some cv ∨ cv = .ref c := fun p cv hcv => by
        rw [eL] at hcv
        exact LamX.among_app _ ht hcv
      refine .mk (fun p cv => if codeAmong p ps.toList = some cv then f p cv else c) (fun p cv => if codeAmong p ps.toList = some cv then g p cv else P') (by unfold newH; rw [if_neg nPP, if_neg nPc, if_pos rfl]) (by rw [eL]; exact TriplesOk_snoc _ _ _ _ ht) (fun p cv hcv => ?_) fun p cv hcv => ?_
      · by_cases hc : codeAmong p ps.toList = some cv
        · simp only [if_pos hc]
          exact ⟨(h3 p cv hc).1, at_ _ _ (h3 p cv hc).2 codeO_tbl⟩
        · simp only [if_neg hc]
          rcases dec p cv hcv with z | z
          · exact absurd z hc
          · exact ⟨z, atC⟩
      · by_cases hc : codeAmong p ps.toList = some cv
        · simp only [if_pos hc]
          exact ih p cv hc
        · simp only [if_neg hc]
          exact tP'
    · refine .mk f g (by unfold newH; rw [if_neg (ne_of_none h1 nP'), if_neg (ne_of_none h1 nC), if_neg hQ]; exact h1) h2 (fun p cv hc => ⟨(h3 p cv hc).1, at_ _ _ (h3 p cv hc).2 codeO_tbl⟩) ih
theorem code_step {c P : Addr} {pos : Pos} {qual : Str} {scope : Scope} {Q : Value → Shared → Prop} {E : Value → Shared → Prop} (I : Inv X pins σ H s) (hc : X.env.code = .ref c) (hd : PySem.W.CodeHd s.heap c P) (hT : TabG H P)
    (h : ∀ (c' P' : Addr) (H' : Hp) (h' : Heap) (tk : Nat), Inv X pins σ H' { s with heap := h', toks := tk } → Grown H H' s.heap.objs.size → H' c' = some (CodeO c' P') → TabG H' P' → s.heap.objs.size ≤ h'.objs.size →
      (∀ b o, s.heap.get? b = some o → (∀ ps, H b ≠ some (.tbl ps)) → h'.get? b = some o) → Q (.ref c') { s with heap := h', toks := tk }) :
    wpAny (model X.prog X.w) X.A (genexprCode X.env pos qual scope) Q E s := by
  cases hT' : id hT with
  | @mk _ ps f g h1 h2 h3 h4 =>
    have hP : s.heap.get? P = some { cls := .none, data := .fields ps } := I.hok P _ h1
    cases hf : codeAmong pos ps.toList with
    | some cv =>
      obtain ⟨e, hco⟩ := h3 pos cv hf
      refine wpAny_genexprCode_hit hc (hd.code hP h2) hf ?_
      rw [e]
      exact h _ _ H s.heap s.toks I (Grown.refl _ _) hco (h4 pos cv hf) (Nat.le_refl _) fun b o e _ => e
    | none =>
      refine wpAny_genexprCodeX hc (hd.code hP h2) (hd.tab hP) hf fun c' h' tk hx hge hlt hco' _ htab' hnew => ?_
      obtain ⟨P', hP'ge, hcode2, htab2⟩ := hnew
      have nC : H c' = none := I.hok.fresh hge
      have nP' : H P' = none := I.hok.fresh hP'ge
      have hcd : PySem.W.CodeHd h' c' P' := .of hcode2 htab2
      have hne : c' ≠ P' := by
        obtain ⟨o, vs, file, tf, flags, tg, inF, text, tt, e1, _, _, _, _, _, _, _, _, ne⟩ := id hcd
        exact ne
      have nPc : P ≠ c' := ne_of_none h1 nC
      have nPP : P ≠ P' := ne_of_none h1 nP'
      refine h c' P' (newH H P c' P' (ps ++ #[rawInt pos.line, rawInt pos.col, .ref c'])) h' tk (inv_code I h1 hx htab'.2 hge hP'ge hcd htab2.2) ⟨fun b o e n => ?_, fun b hb n => ?_, fun b n => ?_, fun Q t => tab_more h1 h2 nC nP' hne t⟩ ?_ ?_ (Nat.le_trans hge (Nat.le_of_lt hlt)) fun b o e n => ?_
      · unfold newH
        rw [if_neg (ne_of_none e nP'), if_neg (ne_of_none e nC), if_neg (fun z => by rw [z, h1] at e; cases e; exact n _ rfl)]
        exact e
      · unfold newH
        rw [if_neg (Nat.ne_of_lt (Nat.lt_of_lt_of_le hb hP'ge)), if_neg (Nat.ne_of_lt (Nat.lt_of_lt_of_le hb hge)), if_neg (fun z => by rw [z, h1] at n; cases n)]
        exact n
      · unfold newH at n
        split at n
        · cases n
        · split at n
          · cases n
          · split at n
            · cases n
            · exact n
      · unfold newH; rw [if_neg hne, if_pos rfl]
      · exact .nil (by unfold newH; rw [if_pos rfl])
      · exact hx b o (fun z => n ps (by rw [z]; exact h1)) e
end

/-- the frame of a generator expression -/
abbrev gxEnv (env : Env) (scope : Scope) (L : Addr) (code : Value) : Env := newEnv scope L env.globals (cellsFrom (L + 1) scope.names (cloFrom env.cells scope.names [])) (env.qual ++ "<genexpr>.") none code none builtinsNs
theorem newEnv_gx {M : Model} {A : Around} {E : Value → Shared → Prop} {s : Shared} {scope : Scope} {globals : Addr} {closure : List (Str × Addr)} {qual : Str} {code : Value} {builtins : Addr} {it : Value} {Q : Env → Shared → Prop} (hk : scope.kind = .function) (h0 : scope.names.lookup (".0" : Str) = some .local)
    (h : ∀ h', h'.Ns s.heap.objs.size (fun y => if y = (".0" : Str) then some it else none) → Heap.SameBut s.heap.objs.size (pushCells (s.heap.push { cls := .type "frame", data := .dict #[] }) scope.names) h' →
      Q (newEnv scope s.heap.objs.size globals (cellsFrom (s.heap.objs.size + 1) scope.names closure) qual none code none builtins) { s with heap := h', toks := s.toks + 1 }) :
    wpAny M A (newFunctionEnv scope globals closure [(".0", it)] qual none code none builtins) Q E s := by
  simp only [newFunctionEnv, Option.isSome_none, Bool.false_eq_true, if_false]
  refine wpAny_bind (wpAny_alloc ?_)
  refine wpAny_bind (wpAny_layCells _ (fun n k c => rfl) scope.names closure _ _ ?_)
  rw [show ({ s with heap := s.heap.push { cls := .type "frame", data := .dict #[] } } : Shared).heap.objs.size = s.heap.objs.size + 1 from Heap.size_push ..]
  simp only [List.forIn_cons, List.forIn_nil]
  refine wpAny_bind (wpAny_bind (wpAny_bind (wpAny_storeName_local (m := fun _ => none) h0 ((Heap.Ns.new s.heap (.type "frame")).keeps fun b o e => pushCells_keeps _ _ b o e) (fun h' hn sb => ?_) ?_)))
  · exact wpAny_pure (wpAny_pure (wpAny_pure (h h' hn sb)))
  · show (scope.kind == .class || (scope.kind == .module && _)) = false
    rw [hk]; rfl
end Gx
/-! Generator expressions: the body's beginning. -/
namespace Gx
open PySem PySem.Spec PyProof.Rows L2 GenW
open Mir (TabG CodeO codeO_tbl codeO_lst)
/-- the context of a generator expression's body -/
abbrev gxCx (X : Cx) (A : Around) (s : Shared) (H : Hp) (scope : Scope) (cenv : Env) (fp : List Addr) (pn : List (Addr × Obj)) : Cx :=
  { X with A := A.deeper cenv, s_0 := s, H_0 := H, env := cenv, outer := X.stack, stack := cenv :: X.stack, ex := fp, fn := fun x => scope.names.lookup x == some .cell, calm := true, pn := pn, xe := fun _ _ => False }
section
variable {X : Cx} {pins : List (Addr × Obj)} {σ : L2.St} {H : Hp} {s : Shared}
theorem gx_start {scope : Scope} {own : List (Str × Nat)} {fp : List Addr} {A : Around} {code : Value} {s2 : Shared} {m : Str → Option Value} {pn pins' : List (Addr × Obj)} (I : Inv X pins σ H s) (ok : BlkOk X.N X.env.scope scope own) (hN : X.N.Nodup) (hfp : ∀ b ∈ fp, FpOk X pins H b ∧ b < s.heap.objs.size)
    (hA : A.handled = none) (hfr : A.frames = some X.stack)
    (kp : ∀ b o, b ≠ s.heap.objs.size → (pushCells (s.heap.push { cls := .type "frame", data := .dict #[] }) scope.names).get? b = some o → s2.heap.get? b = some o) (hns : s2.heap.Ns s.heap.objs.size m) (hos : s2.os = s.os) (hb : AllBare s2.gens)
    (hpn : ∀ p ∈ pn ++ pins', s2.heap.get? p.1 = some p.2 ∧ H p.1 = none ∧ p.1 ≠ s.heap.objs.size ∧ p.1 ∉ frs X.stack ∧ ∀ v, p.2.data ≠ .cell v) :
    Inv (gxCx X A s H scope (gxEnv X.env scope s.heap.objs.size code) fp pn) pins' (L2.wipe σ (own.map (·.2))) H s2 := by
  have hfree : ∀ y ∈ scope.names, y.2 = .free → ∃ c, X.env.cells.lookup y.1 = some c := fun y hy e => by
    rcases ok.free y hy e with k | k
    · exact I.ok.has _ (.inl k)
    · exact I.ok.has _ (.inr k)
  generalize hcenv : gxEnv X.env scope s.heap.objs.size code = cenv
  have kp0 : ∀ b o, s.heap.get? b = some o → s2.heap.get? b = some o := fun b o e => kp b o (Nat.ne_of_lt (Heap.lt_size e)) (pushCells_keeps _ _ _ _ (Heap.get?_push_of_some _ e))
  have hL : cenv.locals = s.heap.objs.size := by rw [← hcenv]; rfl
  have hcl : cenv.cells = cellsFrom (s.heap.objs.size + 1) scope.names (cloFrom X.env.cells scope.names []) := by rw [← hcenv]; rfl
  have hsc : cenv.scope = scope := by rw [← hcenv]; rfl
  have hframe : cenv.frame = some cenv.locals := by rw [← hcenv]; rfl
  rw [← Heap.size_push s.heap { cls := .type "frame", data := .dict #[] }] at hcl
  have cm : ∀ {y c}, (y, c) ∈ cloFrom X.env.cells scope.names [] → X.env.cells.lookup y = some c ∧ c < s.heap.objs.size := fun {y c} hm => by
    rcases cloFrom_mem hm with hm | ⟨h1, rfl⟩
    · cases hm
    · obtain ⟨c, hc⟩ := hfree _ h1 rfl
      rw [hc]
      obtain ⟨w, z⟩ := I.cell _ _ hc
      exact ⟨rfl, z.lt⟩
  have mem : ∀ {y c}, cenv.cells.lookup y = some c → (X.env.cells.lookup y = some c ∧ c < s.heap.objs.size) ∨ (s.heap.objs.size + 1 ≤ c ∧ s2.heap.IsCell c none) := fun {y c} e => by
    rw [hcl] at e
    rcases cells_mem (PySem.mem_of_lookup e) with hm | ⟨_, h2, h3⟩
    · exact .inl (cm hm)
    · rw [Heap.size_push] at h2
      obtain ⟨o, ho, hd⟩ := h3
      exact .inr ⟨h2, o, kp c o (Nat.ne_of_gt h2) ho, hd⟩
  have look : ∀ {y}, scope.names.lookup y = some .free → ∃ c, cenv.cells.lookup y = some c ∧ X.env.cells.lookup y = some c := fun {y} hl => by
    have hy : (y, NameKind.free) ∈ scope.names := PySem.mem_of_lookup hl
    obtain ⟨c', e'⟩ := mem_lookup (cells_acc (names := scope.names) (n := (s.heap.push { cls := .type "frame", data := .dict #[] }).objs.size) (cloFrom_has (cells := X.env.cells) (acc := []) hy))
    rw [← hcl] at e'
    refine ⟨c', e', ?_⟩
    rw [hcl] at e'
    rcases cells_mem (PySem.mem_of_lookup e') with hm | ⟨h1, _, _⟩
    · exact (cm hm).1
    · have := ok.uniq _ h1
      rw [hl] at this; cases this
  have okB : (gxCx X A s H scope cenv fp pn).Ok := by
    refine ⟨I.ok.mod, by show cenv.scope.kind = _; rw [hsc]; exact ok.kind, by show cenv.globals = _; rw [← hcenv]; exact I.ok.glob, by show cenv.builtins = _; rw [← hcenv]; rfl, by show s.heap.objs.size ≤ cenv.locals; rw [hL]; exact Nat.le_refl _,
      fun y z c e1 e2 => ?_, fun y hy => ?_, fun y c z e => ?_, fun _ => hA, Around.frames_deeper hfr, .inr ⟨rfl, hframe⟩, fun b hb => ⟨?_, fun y c e z => ?_⟩, I.bs, Nat.le_trans I.ok.bsz I.sz, fun b o e hb => ?_, fun b hb z => ?_, I.stack, I.stkFree⟩
    · have e1 : cenv.cells.lookup y = some c := e1
      have e2 : cenv.cells.lookup z = some c := e2
      rw [hcl] at e1 e2
      refine cells_inj (fun p hp => ?_) (fun y z c a b => I.ok.inj y z c (cm a).1 (cm b).1) (PySem.mem_of_lookup e1) (PySem.mem_of_lookup e2)
      rw [Heap.size_push]
      exact Nat.lt_succ_of_lt (cm (y := p.1) (c := p.2) hp).2
    · show ∃ c, cenv.cells.lookup y = some c
      have hy : cenv.scope.names.lookup y = some .cell ∨ cenv.scope.names.lookup y = some .free := hy
      rw [hsc] at hy
      rcases hy with hy | hy
      · obtain ⟨c, hm⟩ := cells_has (n := (s.heap.push { cls := .type "frame", data := .dict #[] }).objs.size) (acc := cloFrom X.env.cells scope.names []) (PySem.mem_of_lookup hy)
        obtain ⟨c', e'⟩ := mem_lookup hm
        exact ⟨c', by rw [hcl]; exact e'⟩
      · obtain ⟨c, h1, _⟩ := look hy
        exact ⟨c, h1⟩
    · have z : (scope.names.lookup y == some NameKind.cell) = true := z
      have z : scope.names.lookup y = some .cell := by simpa using z
      have e : cenv.cells.lookup y = some c := e
      rw [hcl] at e
      rcases cells_mem (PySem.mem_of_lookup e) with hm | ⟨_, h2, _⟩
      · rcases cloFrom_mem hm with hm | ⟨h1, _⟩
        · cases hm
        · have q := ok.uniq _ h1
          rw [z] at q; cases q
      · rw [Heap.size_push] at h2
        exact Nat.le_of_succ_le h2
    · show b ≠ cenv.locals
      rw [hL]; exact Nat.ne_of_lt (hfp b hb).2
    · have e : cenv.cells.lookup y = some c := e
      rcases mem e with ⟨h1, _⟩ | ⟨h1, _⟩
      · exact (hfp b hb).1.2.2.2.2.1 y c h1 z
      · have h2 : s.heap.objs.size + 1 ≤ b := by rw [← z]; exact h1
        exact absurd (Nat.lt_of_lt_of_le (hfp b hb).2 (Nat.le_of_succ_le h2)) (Nat.lt_irrefl _)
    · rcases (hfp b hb).1.2.2.2.1 with z | z
      · exact I.ok.noex b o e z
      · exact absurd (Nat.lt_of_lt_of_le (Heap.lt_size e) (Nat.le_trans I.ok.bsz z)) (Nat.lt_irrefl _)
    · rcases List.mem_cons.mp (I.stkSub b z) with z | z
      · exact (hfp b hb).1.2.1 z
      · exact (hfp b hb).1.2.2.1 z
  refine ⟨okB, hos, hb, Un.kept kp0, ⟨m, ?_, fun i y av e1 e2 e3 => ?_⟩, fun y c e => ?_, ?_, fun y c e => ?_, fun p hp => ?_, I.hok.kept kp0, by rw [wipe_length]; exact I.len⟩
  · show Heap.Ns _ cenv.locals _
    rw [hL]
    exact hns
  · obtain ⟨e2, hne⟩ := wipe_some e2
    have hfr' : scope.names.lookup y = some .free := by
      have e3 : Vis cenv.scope y := e3
      rw [hsc] at e3
      have no : ∀ k, scope.names.lookup y = some k → ¬ (k = .local ∨ k = .cell) := fun k hk hh => by
        rcases ok.own _ (PySem.mem_of_lookup hk) hh with e' | e'
        · obtain ⟨p, hp, hpy⟩ := List.mem_map.mp e'
          have e3 := ok.ix p hp
          have : p.1 = y := hpy
          rw [this] at e3
          exact hne (List.mem_map.mpr ⟨p, hp, nodup_ix hN e3 e1⟩)
        · exact e' (List.mem_of_getElem? e1)
      rcases e3 with e3 | e3 | e3
      · exact absurd (.inl rfl) (no _ e3)
      · exact absurd (.inr rfl) (no _ e3)
      · exact e3
    obtain ⟨m, hn, hl⟩ := I.loc
    have hvis : Vis X.env.scope y := (ok.free _ (PySem.mem_of_lookup hfr') rfl).elim (fun k => .inr (.inl k)) (fun k => .inr (.inr k))
    obtain ⟨w, r, q⟩ := hl i y av e1 e2 hvis
    refine ⟨w, r, .inr ⟨.inr (by show cenv.scope.names.lookup y = _; rw [hsc]; exact hfr'), ?_⟩⟩
    obtain ⟨c, h1, h2⟩ := look hfr'
    rcases q with ⟨k, _⟩ | ⟨_, c', e', z⟩
    · have k : X.env.scope.names.lookup y = some .local := k
      rcases ok.free _ (PySem.mem_of_lookup hfr') rfl with k' | k' <;> rw [show X.env.scope.names.lookup y = _ from k'] at k <;> cases k
    · rw [h2] at e'; cases e'
      exact ⟨c, h1, z.keeps kp0⟩
  · have e : cenv.cells.lookup y = some c := e
    rcases mem e with ⟨h1, _⟩ | ⟨_, z⟩
    · obtain ⟨w, z⟩ := I.cell y c h1
      exact ⟨w, z.keeps kp0⟩
    · exact ⟨_, z⟩
  · show H cenv.locals = none
    rw [hL]; exact I.hok.fresh (Nat.le_refl _)
  · have e : cenv.cells.lookup y = some c := e
    rcases mem e with ⟨h1, _⟩ | ⟨h1, _⟩
    · exact I.freeC y c h1
    · exact I.hok.fresh (Nat.le_of_succ_le h1)
  · obtain ⟨q1, q2, q3, q4, q5⟩ := hpn p hp
    exact ⟨q1, q2, by show p.1 ≠ cenv.locals; rw [hL]; exact q3, q4, q5⟩
end
end Gx
/-! Generator expressions: the body's run. -/
namespace Gx
open PySem PySem.Spec PyProof.Rows L2 GenW
open Mir (TabG CodeO codeO_tbl codeO_lst)
theorem over_gx {A : Around} {elt : Expr} {gs : List Comprehension} {scope : Scope} {pos : Pos} {it acc : Value} {env : Env} : A.over (.compLoop (.GeneratorExp elt gs scope pos) 0 it acc env) [] = A.deeper env := by
  first
    | rfl
    | (obtain ⟨hd, d, fr, gs, u⟩ := A; simp [Around.over, Around.deeper, marksOver, frameCount, unitsOf, envsOf, guardsOf, pushEnvs, pushGuards, Code.envs, Code.env?, Code.isFrame, Code.guards, Code.isGuard, Code.weight, Code.frames, Code.isCreation, Code.isCaller, Code.cUnits])
/-- the consumer's list, if it fills one -/
def pinS : Option Addr → Array Value → Nat → List (Addr × Obj)
  | none, _, _ => []
  | some S, acc, c => [(S, lstObj acc c)]
theorem of_pinS {S : Option Addr} {acc : Array Value} {c : Nat} {p : Addr × Obj} (h : p ∈ pinS S acc c) : S = some p.1 ∧ p.2 = lstObj acc c := by
  cases S with
  | none => exact absurd h List.not_mem_nil
  | some S =>
    have z := List.mem_singleton.mp h
    subst z
    exact ⟨rfl, rfl⟩
/-- running: ys is out, and stands in the consumer's list; ip: the generator's own iterators, as they stand -/
def GJ (Y : Cx) (S : Option Addr) (ip : List (Addr × Obj)) (ys : List V) (σ : L2.St) (H : Hp) (s : Shared) : Prop :=
  ∃ (acc : Array Value) (c : Nat), (S ≠ none → Vals ys acc.toList) ∧ Inv Y (pinS S acc c ++ ip) σ H s
/-- the consumer has taken v: it may put it behind its list; all else is kept -/
structure SleptO (S : Option Addr) (v : Value) (s s' : Shared) : Prop where
  os : s'.os = s.os
  bare : AllBare s'.gens
  keep : ∀ b o, S ≠ some b → s.heap.get? b = some o → s'.heap.get? b = some o
  own : ∀ S', S = some S' → ∀ acc c, s.heap.get? S' = some (lstObj acc c) → ∃ c', s'.heap.get? S' = some (lstObj (acc.push v) c')
theorem GJ.woken {Y : Cx} {S : Option Addr} {ip : List (Addr × Obj)} {ys : List V} {x : V} {v : Value} {σ : L2.St} {H : Hp} {s s' : Shared} (hpn : ∀ S', S = some S' → ∀ p ∈ Y.pn, p.1 ≠ S') (hip : ∀ S', S = some S' → ∀ p ∈ ip, p.1 ≠ S') (hA : ∀ S', S = some S' → Apart Y S')
    (h : GJ Y S ip ys σ H s) (rv : RelV x v) (z : SleptO S v s s') : GJ Y S ip (ys ++ [x]) σ H s' := by
  cases S with
  | none =>
    obtain ⟨acc, c, _, I⟩ := h
    have k : ∀ b o, s.heap.get? b = some o → s'.heap.get? b = some o := fun b o e => z.keep b o (fun z => nomatch z) e
    exact ⟨acc, c, fun n => absurd rfl n, I.call' (ch := []) z.os (Un.kept k) (I.hok.kept k) z.bare fun b q => absurd q List.not_mem_nil⟩
  | some S =>
    obtain ⟨acc, c, r, I⟩ := h
    have q : GI Y S ip ys σ H s := ⟨acc, c, r (fun z => nomatch z), I⟩
    have q2 := q.woken (hpn S rfl) (hip S rfl) (hA S rfl) rv ⟨z.os, z.bare, fun b o hb e => z.keep b o (fun n => hb (Option.some.inj n).symm) e, z.own S rfl⟩
    obtain ⟨acc', c', r', I'⟩ := q2
    exact ⟨acc', c', fun _ => r', I'⟩
/-- an item is handed out -/
def YG (Y : Cx) (S : Option Addr) (Go : V → Prop) (Cy : List V → V → Hp → Prop) : Protocol := fun n s₀ v s kap =>
  ∃ ys x ip σ H, n + 1 + ys.length = sizeLine ∧ RelV x v ∧ GJ Y S ip ys σ H s ∧ Cy ys x H ∧ ∀ s', Go x → SleptO S v s s' → kap (.send .none) s'
/-- the end -/
def PG' (Y : Cx) (S : Option Addr) (Qe : List V → Hp → Prop) : Nat → Shared → Shared → Prop := fun n s₀ s => ∃ ys σ H, n + ys.length = sizeLine ∧ GJ Y S [] ys σ H s ∧ Qe ys H
def RG (Y : Cx) (S : Option Addr) (Qe : List V → Hp → Prop) : GenEnd := fun n s₀ r s => r = .ok .next ∧ PG' Y S Qe n s₀ s
/-- the body, turn for turn -/
def Turns (J : It) (us : List Nat) (σ : L2.St) (g : TG) (te : TE) (W : Nat → List V → Hp → Prop) (Qe : List V → Hp → Prop) (Cy : List V → V → Hp → Prop) (Go : V → Prop) : Prop :=
  ∀ i ys H, W i ys H → (J.stop i H ∧ Qe ys H) ∨ (J.go i H ∧ ys.length < sizeLine ∧ ∀ x H', J.yld i H x H' → g x (L2.wipe σ us) H' fun σ2 H2 => L2.wipe σ2 us = L2.wipe σ us ∧ te σ2 H2 fun y H4 => (Go y → W (i + 1) (ys ++ [y]) H4) ∧ Cy ys y H4)
section
variable {Y : Cx} {A : Around} {S : Option Addr} {elt tg iter : Expr} {scope : Scope} {pos : Pos} {it : Addr} {fp : List Addr} {J : It} {tn : Nat → Heap → Prop} {us : List Nat} {σ : L2.St} {g : TG} {te : TE} {W : Nat → List V → Hp → Prop} {Qe : List V → Hp → Prop} {Cy : List V → V → Hp → Prop} {Go : V → Prop}
theorem gx_loop (hA : A.deeper Y.env = Y.A) (hc : Y.calm = true) (hxe : Y.xe = fun _ _ => False) (hex : Y.ex = fp) (hco : Y.env.scope.isCoroutine = false) (T : Turn Y.prog Y.w Y.K tg J fp it tn)
    (hpn : ∀ S', S = some S' → ∀ p ∈ Y.pn, p.1 ≠ S') (hS : ∀ S', S = some S' → Apart Y S' ∧ S' ∉ fp) (hpf : ∀ p ∈ Y.pn, p.1 ∉ fp) (hg : PG Y tg g) (he : PE Y elt te) (turn : Turns J us σ g te W Qe Cy Go) :
    ∀ (n i : Nat) (ys : List V) (s₀ s : Shared) (H : Hp), n + ys.length = sizeLine → GJ Y S [] ys (L2.wipe σ us) H s → tn i s.heap → (∀ b ∈ fp, H b = none) → W i ys H →
      Seg (model Y.prog Y.w) A (RG Y S Qe) (YG Y S Go Cy) n s₀ (.compLoop (.GeneratorExp elt [⟨tg, iter, [], 0⟩] scope pos) 0 (.ref it) .none Y.env) ((model Y.prog Y.w).den (.compLoop (.GeneratorExp elt [⟨tg, iter, [], 0⟩] scope pos) 0 (.ref it) .none Y.env)) [] s := by
  have ov : A.over (.compLoop (.GeneratorExp elt [⟨tg, iter, [], 0⟩] scope pos) 0 (.ref it) .none Y.env) [] = Y.A := over_gx.trans hA
  intro n
  induction n using Nat.strongRecOn with
  | ind n ih =>
    intro i ys s₀ s H hn hI hst hf hW
    obtain ⟨acc, c, r, I⟩ := hI
    have stat : ∀ {H' : Hp} {pins : List (Addr × Obj)}, (∀ p ∈ pins, p ∈ pinS S acc c ++ []) → (∀ b ∈ fp, H' b = none) → ∀ b ∈ fp, FpOk Y pins H' b := fun {H' pins} hp hn b hb => by
      refine ⟨hn b hb, (I.ok.exf b (hex ▸ hb)).1, I.ok.exfs b (hex ▸ hb), .inl (hex ▸ hb), fun x c e => (I.ok.exf b (hex ▸ hb)).2 x c e, fun p hp' z => ?_⟩
      rcases List.mem_append.mp hp' with q | q
      · exact hpf p q (z ▸ hb)
      · have q := hp p q
        rw [List.append_nil] at q
        exact (hS p.1 (of_pinS q).1).2 (z ▸ hb)
    show Seg _ A _ _ n s₀ _ ((compTurn (.GeneratorExp elt [⟨tg, iter, [], 0⟩] scope pos) 0 (.ref it) .none Y.env).onRaise (leaving Y.env)) [] s
    rw [compTurn_gen, Sem.onRaise_eq_wrap]
    refine seg_bind_wrap (wpAny_standAt ?_)
    rcases turn i ys H hW with ⟨stop, q⟩ | ⟨go, hlt, step⟩
    · refine seg_bind_wrap ?_
      rw [ov]
      refine thnF (T.done Y rfl rfl rfl hc i _ s _ H (fun _ _ => False) I (stat (fun _ h => h) hf) hst stop) fun r1 s1 ⟨hr, I1⟩ => ?_
      subst hr
      exact seg_end (.ok .next) ⟨rfl, ys, _, H, hn, ⟨acc, c, r, I1⟩, q⟩
    · obtain ⟨k, rfl⟩ : ∃ k, n = k + 1 := ⟨n - 1, by omega⟩
      refine seg_bind_wrap ?_
      rw [ov]
      refine thnF (T.item Y rfl rfl rfl hc i _ s _ H (fun _ _ => False) I (stat (fun _ h => h) hf) hst go) fun r1 s1 ⟨u, hr, h1⟩ => ?_
      subst hr
      refine seg_bind_wrap ?_
      rw [ov]
      refine thnF h1 fun _ s2 ⟨x, H2, I2, r2, y2, st2, n2⟩ => ?_
      have I2' := I2.pinned (stat (fun _ h => h) n2) (T.obj _ _ st2)
      refine seg_bind_wrap ?_
      rw [ov]
      have hg' := hg.run _ s2 _ H2 x u _ I2' r2 (step x H2 y2)
      rw [hxe] at hg'
      refine thnF hg' fun _ s3 ⟨σ3, H3, I3, hw3, q3⟩ => ?_
      refine seg_bind_wrap ?_
      simp only [List.forIn_nil]
      refine wpAny_pure ?_
      simp only [if_true]
      have hy : ∀ v, yieldOut Y.env v = yieldValue v := fun v => by simp only [yieldOut, hco, Bool.false_eq_true, if_false]
      simp only [hy]
      rw [Sem.bind_eq_wrap', Sem.bind_eq_wrap', Sem.wrap_wrap, Sem.wrap_wrap]
      refine seg_wrap ?_
      rw [ov]
      have he' := he.run _ s3 σ3 H3 _ I3 q3
      rw [hxe] at he'
      refine thnF he' fun v s4 ⟨yv, H4, I4, r4, w4, c4⟩ => ?_
      have J4 : GJ Y S (pinsAt fp s2.heap) ys σ3 H4 s4 := ⟨acc, c, r, by rw [List.append_nil] at I4; exact I4⟩
      refine seg_at (seg_yield rfl rfl rfl ⟨ys, yv, pinsAt fp s2.heap, σ3, H4, by omega, r4, J4, c4, fun s5 hgo hsl => ?_⟩)
      have J5 := J4.woken hpn (fun S' hS' p hp => fun z => (hS S' hS').2 (z ▸ (of_pinsAt hp).1)) (fun S' hS' => (hS S' hS').1) r4 hsl
      obtain ⟨acc5, c5, r5, I5⟩ := J5
      have pin5 : ∀ b ∈ fp, ∀ o, s2.heap.get? b = some o → s5.heap.get? b = some o ∧ H4 b = none := fun b hb o e =>
        let z := I5.pin (b, o) (List.mem_append_right _ (List.mem_append_right _ (mem_pinsAt hb e)))
        ⟨z.1, z.2.1⟩
      have hl : (L2.wipe σ us).length = σ3.length := by rw [← hw3, wipe_length]
      refine seg_again rfl (ih k (Nat.lt_succ_self k) (i + 1) (ys ++ [yv]) s5 s5 H4 (by rw [List.length_append, List.length_singleton]; omega) ⟨acc5, c5, r5, ?_⟩ (T.keep _ _ _ st2 fun b hb o e => (pin5 b hb o e).1) (fun b hb => ?_) (w4 hgo))
      · rw [List.append_nil]
        refine (I5.unpinned).weak hl fun j v e => ?_
        rw [← hw3] at e
        exact (wipe_some e).1
      · obtain ⟨o, e, _⟩ := T.obj _ _ st2 b hb
        exact (pin5 b hb o e).2
theorem gx_begin (hA : A.deeper Y.env = Y.A) (hc : Y.calm = true) (hxe : Y.xe = fun _ _ => False) (hex : Y.ex = fp) (hco : Y.env.scope.isCoroutine = false) (T : Turn Y.prog Y.w Y.K tg J fp it tn)
    (hpn : ∀ S', S = some S' → ∀ p ∈ Y.pn, p.1 ≠ S') (hS : ∀ S', S = some S' → Apart Y S' ∧ S' ∉ fp) (hpf : ∀ p ∈ Y.pn, p.1 ∉ fp) (hg : PG Y tg g) (he : PE Y elt te) (turn : Turns J us σ g te W Qe Cy Go)
    {s₀ s : Shared} {H : Hp} (hI : GJ Y S [] [] (L2.wipe σ us) H s) (hst : tn 0 s.heap) (hf : ∀ b ∈ fp, H b = none) (hW : W 0 [] H) :
    Seg (model Y.prog Y.w) A (RG Y S Qe) (YG Y S Go Cy) sizeLine s₀ (.compStart (.GeneratorExp elt [⟨tg, iter, [], 0⟩] scope pos) 0 (.ref it) .none Y.env) ((model Y.prog Y.w).den (.compStart (.GeneratorExp elt [⟨tg, iter, [], 0⟩] scope pos) 0 (.ref it) .none Y.env)) [] s := by
  have loop := gx_loop (iter := iter) (scope := scope) (pos := pos) hA hc hxe hex hco T hpn hS hpf hg he turn sizeLine 0 [] s₀ s H rfl hI hst hf hW
  show Seg _ A _ _ _ s₀ _ ((compStart (.GeneratorExp elt [⟨tg, iter, [], 0⟩] scope pos) 0 (.ref it) .none Y.env).onRaise (leaving Y.env)) [] s
  unfold compStart
  rw [Sem.onRaise_eq_wrap]
  show Seg _ A _ _ _ s₀ _ ((ask >>= _).wrap _ _ _ _) [] s
  refine seg_bind_wrap (wpAny_askSetting ?_)
  split
  · exact seg_again rfl loop
  · first
      | exact seg_bind_wrap (wpAny_rule (seg_bind_wrap (wpAny_standAt (seg_bind_wrap (T.self _ 0 s _ _ hst (seg_again rfl loop))))))
      | (refine seg_bind_wrap (wpAny_rule ?_); show Seg _ A _ _ _ s₀ _ ((standAt iter.pos >>= _).wrap _ _ _ _) [] s; exact seg_bind_wrap (wpAny_standAt (seg_bind_wrap (T.self _ 0 s _ _ hst (seg_again rfl loop)))))
end
end Gx
/-! Generator expressions: the making. -/
namespace Gx
open PySem PySem.Spec PyProof.Rows L2 GenW
open Mir (TabG CodeO codeO_tbl codeO_lst)
/-- the code object at c is known, its table at P -/
def CodeIn (X : Cx) (H : Hp) (c P : Addr) : Prop := PySem.W.CodeHd X.base c P ∨ H c = some (CodeO c P)
section
variable {X : Cx} {pins : List (Addr × Obj)} {σ : L2.St} {H : Hp} {s : Shared}
theorem CodeIn.now {c P : Addr} (h : CodeIn X H c P) (I : Inv X pins σ H s) : PySem.W.CodeHd s.heap c P := by
  rcases h with h | h
  · exact h.keeps I.bk
  · obtain ⟨h, _⟩ := I.hok c _ h
    exact h
/-- a generator that has not begun -/
structure Ready (X : Cx) (pins : List (Addr × Obj)) (σ : L2.St) (elt tg iter : Expr) (scope : Scope) (pos : Pos) (J : It) (c' : Addr) (H : Hp) (s4 s5 : Shared) (a gn it : Addr) (fp : List Addr) (tn : Nat → Heap → Prop) : Prop where
  inv : Inv X pins σ H s4
  T : Turn X.prog X.w X.K tg J fp it tn
  fp : ∀ b ∈ fp, FpOk X pins H b ∧ b < s4.heap.objs.size
  st : tn 0 s4.heap
  os : s5.os = s4.os
  bare : AllBare s5.gens
  kp : ∀ b o, b ≠ s4.heap.objs.size → (pushCells (s4.heap.push { cls := .type "frame", data := .dict #[] }) scope.names).get? b = some o → s5.heap.get? b = some o
  ns : ∃ m, s5.heap.Ns s4.heap.objs.size m
  gen : s5.heap.IsGen a gn
  fresh : s5.gens[gn]? = some (.fresh (.compStart (.GeneratorExp elt [⟨tg, iter, [], 0⟩] scope pos) 0 (.ref it) .none (gxEnv X.env scope s4.heap.objs.size (.ref c'))))
  above : s4.heap.objs.size < a
  lt : a < s5.heap.objs.size
theorem gx_make {elt tg iter : Expr} {scope : Scope} {own : List (Str × Nat)} {pos : Pos} {wi : TI} {c P : Addr} {Rd : It → Addr → Hp → Prop} {Q' : Value → Shared → Prop}
    (hroom : X.A.depth < recursionLimit) (hco : scope.isCoroutine = false) (h0 : scope.names.lookup (".0" : Str) = some .local) (hi : PI X tg iter wi) (ok : BlkOk X.N X.env.scope scope own) (hcode : X.env.code = .ref c)
    (hbm : ∃ P0, X.base.BuiltinsAt X.mg P0) (hs : ∀ v, genFold iter X.env v = pure v) (I : Inv X pins σ H s)
    (h : wi σ H fun J H1 => TabG H1 P ∧ CodeIn X H1 c P ∧ ∀ c' P' H2, Grown H1 H2 0 → H2 c' = some (CodeO c' P') → TabG H2 P' → Rd J c' H2)
    (hQ : ∀ J c' H2 s4 s5 a gn it fp tn, Rd J c' H2 → Ready X pins σ elt tg iter scope pos J c' H2 s4 s5 a gn it fp tn → Q' (.ref a) s5) :
    wpAny (model X.prog X.w) X.A (eval (.GeneratorExp elt [⟨tg, iter, [], 0⟩] scope pos) X.env) Q' X.xe s := by
  have hfree : ∀ y ∈ scope.names, y.2 = .free → ∃ c, X.env.cells.lookup y.1 = some c := fun y hy e => by
    rcases ok.free y hy e with k | k
    · exact I.ok.has _ (.inl k)
    · exact I.ok.has _ (.inr k)
  rw [eval_GeneratorExp1 _ _ _ _ _ _ _ hco]
  refine wpAny_bind (thn (hi.run pins s σ H _ I h) fun xv s1 h1 => ?_)
  refine wpAny_bind (wpAny_standAt ?_)
  refine wpAny_bind (wpAny_of_eq (hs xv) ?_)
  refine wpAny_bind (wpAny_holding (thn h1 fun itv s2 h2 => ?_))
  obtain ⟨it, fp, tn, J, H2, e, I2, T, st2, f2, hT, hCd, q⟩ := h2
  subst e
  refine wpAny_bind (wpAny_enterFrame I2.nolimit hroom ?_)
  refine wpAny_bind (wpAny_of_eq (closure_ok hfree) ?_)
  refine wpAny_bind (code_step I2 hcode (hCd.now I2) hT fun c' P' H3 h3 tk I3 gr hc' hP' hsz keep => ?_)
  obtain ⟨P0, bm, ob, e1, e2, e3, e4, e5, e6, e7, e8⟩ := hbm
  refine wpAny_bind (wpAny_builtinsFor (m := X.mg) (by rw [I3.ok.glob]; exact I3.mod.glob.keeps I3.bk) e1 e2 (I3.bk _ _ e5) e6 e7 e8 ?_)
  refine wpAny_bind (newEnv_gx ok.kind h0 fun h' hn sb => ?_)
  simp only [newGenerator, newFields]
  refine wpAny_bind (wpAny_newGen (wpAny_bind (wpAny_mkText (wpAny_bind (wpAny_mkText (wpAny_newObj_type ?_ (by size_fits)))))))
  have sz1 := pushCells_size scope.names (h3.push { cls := .type "frame", data := .dict #[] })
  rw [Heap.size_push] at sz1
  have szh : h'.objs.size = (pushCells (h3.push { cls := .type "frame", data := .dict #[] }) scope.names).objs.size := sb.1
  have fps : ∀ b ∈ fp, b < s2.heap.objs.size := fun b hb => by
    obtain ⟨o, e, _⟩ := T.obj _ _ st2 b hb
    exact Heap.lt_size e
  refine hQ J c' H3 { s2 with heap := h3, toks := tk } _ h'.objs.size s2.gens.size it fp tn (q c' P' H3 ⟨gr.fr, fun b hb => absurd hb (Nat.not_lt_zero b), gr.keep, gr.tab⟩ hc' hP') ⟨I3, T, fun b hb => ⟨⟨gr.no b (fps b hb) (f2 b hb).1, (f2 b hb).2⟩, Nat.lt_of_lt_of_le (fps b hb) hsz⟩, ?_, rfl, I2.bare.push rfl, ?_, ?_, ⟨_, _, _, Heap.get?_push_size _ rfl, rfl, rfl, rfl⟩, Array.getElem?_push_size .., ?_, ?_⟩
  · refine T.keep _ _ _ st2 fun b hb o e => keep b o e fun ps z => ?_
    rw [(f2 b hb).1] at z
    cases z
  · intro b o hb e
    exact Heap.get?_push_of_some _ (sb.extBut b o hb e)
  · exact ⟨_, hn.push _⟩
  · show h3.objs.size < h'.objs.size
    omega
  · show h'.objs.size < (h'.push _).objs.size
    rw [Heap.size_push]; exact Nat.lt_succ_self _
end
/-- the body's run, for a consumer -/
theorem Ready.seg {X : Cx} {pins : List (Addr × Obj)} {σ : L2.St} {elt tg iter : Expr} {scope : Scope} {own : List (Str × Nat)} {pos : Pos} {J : It} {c' : Addr} {H : Hp} {s4 s5 : Shared} {a gn it : Addr} {fp : List Addr} {tn : Nat → Heap → Prop}
    (R : Ready X pins σ elt tg iter scope pos J c' H s4 s5 a gn it fp tn) (ok : BlkOk X.N X.env.scope scope own) (hN : X.N.Nodup) (hco : scope.isCoroutine = false) {A : Around} {S : Option Addr} {s2 : Shared} {g : TG} {te : TE} {W : Nat → List V → Hp → Prop} {Qe : List V → Hp → Prop} {Cy : List V → V → Hp → Prop} {Go : V → Prop}
    (hA : A.handled = none) (hfr : A.frames = some X.stack) (hk : ∀ b o, s5.heap.get? b = some o → s2.heap.get? b = some o) (hos : s2.os = s4.os) (hb : AllBare s2.gens) (hS : ∀ S', S = some S' → s5.heap.objs.size ≤ S' ∧ ∃ c, s2.heap.get? S' = some (lstObj #[] c))
    (hg : ∀ pn, PG (gxCx X A s4 H scope (gxEnv X.env scope s4.heap.objs.size (.ref c')) fp pn) tg g) (he : ∀ pn, PE (gxCx X A s4 H scope (gxEnv X.env scope s4.heap.objs.size (.ref c')) fp pn) elt te)
    (turn : Turns J (own.map (·.2)) σ g te W Qe Cy Go) (hW : W 0 [] H) :
    ∃ (go : Obj) (nm qn : Value), go.cls = .type "generator" ∧ go.data = .fields #[.int gn 0, nm, qn] ∧ go.slots = #[] ∧
      Seg (model X.prog X.w) A (RG (gxCx X A s4 H scope (gxEnv X.env scope s4.heap.objs.size (.ref c')) fp [(a, go)]) S Qe) (YG (gxCx X A s4 H scope (gxEnv X.env scope s4.heap.objs.size (.ref c')) fp [(a, go)]) S Go Cy) sizeLine s2
        (.compStart (.GeneratorExp elt [⟨tg, iter, [], 0⟩] scope pos) 0 (.ref it) .none (gxEnv X.env scope s4.heap.objs.size (.ref c')))
        ((model X.prog X.w).den (.compStart (.GeneratorExp elt [⟨tg, iter, [], 0⟩] scope pos) 0 (.ref it) .none (gxEnv X.env scope s4.heap.objs.size (.ref c')))) [] s2 := by
  obtain ⟨go, nm, qn, hgo, hgc, hgd, hgs⟩ := R.gen
  refine ⟨go, nm, qn, hgc, hgd, hgs, ?_⟩
  obtain ⟨m, hm⟩ := R.ns
  have lt5 : s4.heap.objs.size < s5.heap.objs.size := Nat.lt_trans R.above R.lt
  have young : ∀ b, s4.heap.objs.size < b → H b = none ∧ b ≠ s4.heap.objs.size ∧ b ∉ frs X.stack := fun b hb => by
    refine ⟨R.inv.hok.fresh (Nat.le_of_lt hb), Nat.ne_of_gt hb, fun z => ?_⟩
    rcases List.mem_cons.mp (R.inv.stkSub b z) with e | e
    · have h1 := R.inv.lt
      rw [← e] at h1
      exact absurd (Nat.lt_trans h1 hb) (Nat.lt_irrefl _)
    · exact R.inv.nofs (Nat.le_of_lt hb) e
  have nocell : ∀ v, go.data ≠ .cell v := fun v z => by rw [hgd] at z; cases z
  have J5 : Inv (gxCx X A s4 H scope (gxEnv X.env scope s4.heap.objs.size (.ref c')) fp [(a, go)]) [] (L2.wipe σ (own.map (·.2))) H s5 := gx_start R.inv ok hN R.fp hA hfr R.kp hm R.os R.bare fun p hp => by
    rw [List.append_nil] at hp
    have z := List.mem_singleton.mp hp
    subst z
    obtain ⟨y1, y2, y3⟩ := young a R.above
    exact ⟨hgo, y1, y2, y3, nocell⟩
  have J2 : ∀ {acc : Array Value} {c : Nat}, (∀ S', S = some S' → s2.heap.get? S' = some (lstObj acc c)) → Inv (gxCx X A s4 H scope (gxEnv X.env scope s4.heap.objs.size (.ref c')) fp [(a, go)]) (pinS S acc c) (L2.wipe σ (own.map (·.2))) H s2 := fun {acc c} hSo => by
    refine gx_start R.inv ok hN R.fp hA hfr (fun b o hb e => hk b o (R.kp b o hb e)) (m := m) ?_ hos hb fun p hp => ?_
    · exact hm.keeps hk
    · rcases List.mem_append.mp hp with z | z
      · have z := List.mem_singleton.mp z
        subst z
        obtain ⟨y1, y2, y3⟩ := young a R.above
        exact ⟨hk _ _ hgo, y1, y2, y3, nocell⟩
      · obtain ⟨z1, z2⟩ := of_pinS z
        obtain ⟨y1, y2, y3⟩ := young p.1 (Nat.lt_of_lt_of_le lt5 (hS p.1 z1).1)
        refine ⟨by rw [z2]; exact hSo p.1 z1, y1, y2, y3, fun v q => ?_⟩
        rw [z2] at q
        cases q
  have ap : ∀ S', S = some S' → Apart (gxCx X A s4 H scope (gxEnv X.env scope s4.heap.objs.size (.ref c')) fp [(a, go)]) S' ∧ S' ∉ fp := fun S' e => by
    have h1 := (hS S' e).1
    refine ⟨⟨Nat.le_of_lt (Nat.lt_of_lt_of_le lt5 h1), Nat.ne_of_gt (Nat.lt_of_lt_of_le lt5 h1), fun x c hx z => ?_⟩, fun hm => ?_⟩
    · obtain ⟨v, hc⟩ := J5.cell x c hx
      have := hc.lt
      rw [z] at this
      exact absurd (Nat.lt_of_lt_of_le this h1) (Nat.lt_irrefl _)
    · exact absurd (Nat.lt_trans (R.fp S' hm).2 (Nat.lt_of_lt_of_le lt5 h1)) (Nat.lt_irrefl _)
  have gj : GJ (gxCx X A s4 H scope (gxEnv X.env scope s4.heap.objs.size (.ref c')) fp [(a, go)]) S [] [] (L2.wipe σ (own.map (·.2))) H s2 := by
    cases S with
    | none => exact ⟨#[], 0, fun n => absurd rfl n, by rw [List.append_nil]; exact J2 fun S' e => nomatch e⟩
    | some S =>
      obtain ⟨_, c, hc⟩ := hS S rfl
      exact ⟨#[], c, fun _ => .nil, by rw [List.append_nil]; exact J2 fun S' e => by cases e; exact hc⟩
  exact gx_begin (Y := gxCx X A s4 H scope (gxEnv X.env scope s4.heap.objs.size (.ref c')) fp [(a, go)]) (s₀ := s2) rfl rfl rfl rfl hco R.T
    (fun S' e p hp => by
      have z := List.mem_singleton.mp hp
      subst z
      exact Nat.ne_of_lt (Nat.lt_of_lt_of_le R.lt (hS S' e).1)) ap (fun p hp hm => by
      have z := List.mem_singleton.mp hp
      subst z
      exact absurd (Nat.lt_trans (R.fp a hm).2 R.above) (Nat.lt_irrefl _)) (hg _) (he _) turn gj
    (R.T.keep _ _ _ R.st fun b hb o e => hk b o (R.kp b o (Nat.ne_of_lt (R.fp b hb).2) (pushCells_keeps _ _ _ _ (Heap.get?_push_of_some _ e)))) (fun b hb => (R.fp b hb).1.1) hW
end Gx
/-! Generator expressions: all(..). -/
namespace Gx
open PySem PySem.Spec PyProof.Rows L2 GenW
open Mir (TabG CodeO codeO_tbl codeO_lst)
theorem slept_run {v : Value} {s1 : Shared} {gs' : GenState} {gn : Nat} (hb : AllBare s1.gens) (hbare : gs'.bare = true) : SleptO none v s1 ((s1.setGen gn gs').setGen gn .running) :=
  ⟨rfl, allBare_setGen (allBare_setGen hb hbare) rfl, fun b o _ e => e, fun S' e => nomatch e⟩
theorem GJ.bare {Y : Cx} {S : Option Addr} {ip : List (Addr × Obj)} {ys : List V} {σ : L2.St} {H : Hp} {s : Shared} (h : GJ Y S ip ys σ H s) : AllBare s.gens := by
  obtain ⟨_, _, _, I⟩ := h
  exact I.bare
theorem GJ.lim {Y : Cx} {S : Option Addr} {ip : List (Addr × Obj)} {ys : List V} {σ : L2.St} {H : Hp} {s : Shared} (h : GJ Y S ip ys σ H s) : s.heap.NoLimit := by
  obtain ⟨_, _, _, I⟩ := h
  exact I.nolimit
abbrev AllGo : V → Prop := fun x => x = .bl true
abbrev AllCy (Q0 : Bool → Hp → Prop) : List V → V → Hp → Prop := fun _ x H => ∃ b, x = .bl b ∧ (b = false → Q0 false H)
abbrev AllQe (Q0 : Bool → Hp → Prop) : List V → Hp → Prop := fun _ H => Q0 true H
theorem all_loop {Y : Cx} {A : Around} {a : Addr} {gn : Nat} {Q0 : Bool → Hp → Prop} {R : Result → Shared → Prop} (hh : A.handled = none) (hd : A.depth < recursionLimit)
    (hgen : ∀ {ip : List (Addr × Obj)} {ys : List V} {σ : L2.St} {H : Hp} {s : Shared}, GJ Y none ip ys σ H s → s.heap.IsGen a gn)
    (fin : ∀ (b : Bool) (ip : List (Addr × Obj)) (ys : List V) (σ : L2.St) (H : Hp) (s1 : Shared) (gs' : GenState) (h' : Heap), GJ Y none ip ys σ H s1 → gs'.bare = true → (∀ b o, s1.heap.get? b = some o → h'.get? b = some o) → Q0 b H → R (.ok (.ret (.bool b))) { s1.setGen gn gs' with heap := h' }) :
    ∀ (n : Nat) (s : Shared) (gs : GenState), s.heap.IsGen a gn → s.heap.NoLimit → s.gens[gn]? = some gs →
      gs.Goes (model Y.prog Y.w) A.in1.in1 (RG Y none (AllQe Q0)) (YG Y none AllGo (AllCy Q0)) n (.send .none) (s.setGen gn .running) → codeAny (model Y.prog Y.w) A (.builtin "all.loop" ⟨[.ref a], []⟩) R s := by
  intro n
  induction n with
  | zero =>
    intro s gs hg hl hgs hgo
    refine codeAny_builtin F.entry_all_loop ?_
    rw [Around.under_plainId F.plain_all_loop _]
    show wpAny _ A.in1 (pyNext (.ref a) >>= _) _ _ s
    refine wpAny_bind (wpAny_pyNext_genexpQ (P := PG' Y none (AllQe Q0)) (A := A.in1) hh hl hd hg hgs hgo (fun v s₁ gs' hbare hv => ?_) (fun s₁ hp h' hk => ?_))
    · obtain ⟨ys, x, ip, σ, H, hn, rv, gj, ⟨b, ex, hq⟩, hkap⟩ := hv
      subst ex
      obtain rfl : v = Value.bool b := rv
      refine wpAny_bind (wpAny_holding (wpAny_truthy_bool ?_))
      refine wpAny_bind (wpAny_letGo ?_)
      cases b with
      | true => exact False.elim (hkap _ rfl (slept_run (gn := gn) (gs' := gs') gj.bare hbare))
      | false =>
        simp only [Bool.false_eq_true, if_false]
        exact wpAny_bind (wpAny_rule (wpAny_pure (fin false ip ys σ H s₁ gs' s₁.heap gj hbare (fun _ _ e => e) (hq rfl))))
    · obtain ⟨ys, σ, H, hn, gj, hq⟩ := hp
      exact wpAny_bind (wpAny_rule (wpAny_pure (fin true [] ys σ H s₁ .finished h' gj rfl hk hq)))
  | succ m ih =>
    intro s gs hg hl hgs hgo
    have hgl : gn < s.gens.size := (Array.getElem?_eq_some_iff.mp hgs).1
    refine codeAny_builtin F.entry_all_loop ?_
    rw [Around.under_plainId F.plain_all_loop _]
    show wpAny _ A.in1 (pyNext (.ref a) >>= _) _ _ s
    refine wpAny_bind (wpAny_gsz (n := gn + 1) hgl (wpAny_pyNext_genexpQ (P := PG' Y none (AllQe Q0)) (A := A.in1) hh hl hd hg hgs hgo (fun v s₁ gs' hbare hv => ?_) (fun s₁ hp h' hk => ?_)))
    · intro hsz
      obtain ⟨ys, x, ip, σ, H, hn, rv, gj, ⟨b, ex, hq⟩, hkap⟩ := hv
      subst ex
      obtain rfl : v = Value.bool b := rv
      refine wpAny_bind (wpAny_holding (wpAny_truthy_bool ?_))
      refine wpAny_bind (wpAny_letGo ?_)
      cases b with
      | true =>
        simp only [if_true]
        have hsz1 : gn < s₁.gens.size := by
          have q : (s₁.setGen gn gs').gens.size = s₁.gens.size := setGen_size _ _ _
          have hsz' : gn + 1 ≤ (s₁.setGen gn gs').gens.size := hsz
          omega
        exact wpAny_pure ⟨plainId_quiet F.plain_all_loop _, ih (s₁.setGen gn gs') gs' (show s₁.heap.IsGen a gn from hgen gj) gj.lim (setGen_at hsz1) (hkap _ rfl (slept_run (gn := gn) (gs' := gs') gj.bare hbare))⟩
      | false =>
        simp only [Bool.false_eq_true, if_false]
        exact wpAny_bind (wpAny_rule (wpAny_pure (fin false ip ys σ H s₁ gs' s₁.heap gj hbare (fun _ _ e => e) (hq rfl))))
    · intro hsz
      obtain ⟨ys, σ, H, hn, gj, hq⟩ := hp
      exact wpAny_bind (wpAny_rule (wpAny_pure (fin true [] ys σ H s₁ .finished h' gj rfl hk hq)))

/-- back in the maker's context -/
theorem back {X : Cx} {pins : List (Addr × Obj)} {σ : L2.St} {elt tg iter : Expr} {scope : Scope} {pos : Pos} {J : It} {c' : Addr} {H : Hp} {s4 s5 : Shared} {a gn it : Addr} {fp : List Addr} {tn : Nat → Heap → Prop}
    (R : Ready X pins σ elt tg iter scope pos J c' H s4 s5 a gn it fp tn) {Y : Cx} (hY : Y.s_0 = s4 ∧ Y.H_0 = H ∧ Y.outer = X.stack ∧ Y.ex = fp ∧ Y.prog = X.prog ∧ Y.w = X.w) {S : Option Addr} {ip : List (Addr × Obj)} {ys : List V} {σ' : L2.St} {H' : Hp} {s1 s' : Shared} (gj : GJ Y S ip ys σ' H' s1)
    (hos : s'.os = s1.os) (hk : ∀ b o, s1.heap.get? b = some o → s'.heap.get? b = some o) (hb : AllBare s'.gens) : Inv X pins σ H' s' := by
  obtain ⟨acc, c, _, I⟩ := gj
  obtain ⟨e1, e2, e3, e4, e5, e6⟩ := hY
  have un := I.base
  have fs : Y.fs = frs X.stack := by show frs Y.outer = _; rw [e3]
  rw [fs, e4, e2, e1] at un
  have hok := I.hok
  rw [e5, e6] at hok
  have os1 := I.os
  rw [e1] at os1
  exact R.inv.call' (ch := fp) (hos.trans os1) (un.trans (Un.kept hk)) (hok.kept hk) hb fun b hb => ⟨(R.fp b hb).1.2.2.2.1, (R.fp b hb).1.2.1, (R.fp b hb).1.2.2.2.2.1, (R.fp b hb).1.2.2.2.2.2⟩

/-- all(elt for tg in iter) -/
def tAllX (X : Cx) (P c : Addr) (us : List Nat) (wi : TI) (g : TG) (te : Addr → TE) : TE := fun σ H Q => wi σ H fun J H1 => TabG H1 P ∧ CodeIn X H1 c P ∧ ∀ c' P' H2, Grown H1 H2 0 → H2 c' = some (CodeO c' P') → TabG H2 P' →
  ∃ W : Nat → List V → Hp → Prop, W 0 [] H2 ∧ Turns J us σ g (te c') W (AllQe fun b H' => Q (.bl b) H') (AllCy fun b H' => Q (.bl b) H') AllGo
theorem pe_allX {X : Cx} {elt tg iter : Expr} {scope : Scope} {own : List (Str × Nat)} {p pos gpos : Pos} {wi : TI} {c P : Addr} {g : TG} {te : Addr → TE} {k : Nat} (hr : Mir.RoomG (k + 1) X.A) (hgl : Gl X "all") (hm : X.mg "all" = none) (hN : X.N.Nodup) (hco : scope.isCoroutine = false) (h0 : scope.names.lookup (".0" : Str) = some .local) (hi : PI X tg iter wi)
    (ok : BlkOk X.N X.env.scope scope own) (hcode : X.env.code = .ref c) (hbm : ∃ P0, X.base.BuiltinsAt X.mg P0) (hs : ∀ v, genFold iter X.env v = pure v)
    (hg : ∀ (A : Around) (s : Shared) (H : Hp) (L c' : Addr) (fp : List Addr) (pn : List (Addr × Obj)), Mir.RoomG k A → PG (gxCx X A s H scope (gxEnv X.env scope L (.ref c')) fp pn) tg g)
    (he : ∀ (A : Around) (s : Shared) (H : Hp) (L c' : Addr) (fp : List Addr) (pn : List (Addr × Obj)), Mir.RoomG k A → PE (gxCx X A s H scope (gxEnv X.env scope L (.ref c')) fp pn) elt (te c'))
    (hst : starEach [.GeneratorExp elt [⟨tg, iter, [], 0⟩] scope gpos] X.env = (false, eval (.GeneratorExp elt [⟨tg, iter, [], 0⟩] scope gpos) X.env) :: starEach [] X.env := by rfl) :
    PE X (.Call (.Name "all" p) [.GeneratorExp elt [⟨tg, iter, [], 0⟩] scope gpos] [] pos) (tAllX X P c (own.map (·.2)) wi g te) := by
  refine ⟨fun pins s σ H Q I h => ?_⟩
  have hroom : X.A.depth < recursionLimit := by have := hr.r.dp; omega
  refine wpAny_Call_Name_kw (ld_blt I hgl hm (by rfl) ?_)
  refine PyProof.Rows.callWith_builtin1 ?_ hst (by rfl)
  rw [hst]
  show wpAny _ _ (spliced ((false, eval (.GeneratorExp elt [⟨tg, iter, [], 0⟩] scope gpos) X.env) :: backTo pos (starEach [] X.env))) _ _ s
  refine Calls.spliced_cons (gx_make (c := c) (P := P) (own := own) (Rd := fun J c' H2 => ∃ W : Nat → List V → Hp → Prop, W 0 [] H2 ∧ Turns J (own.map fun q : Str × Nat => q.2) σ g (te c') W (AllQe fun b H' => Q (.bl b) H') (AllCy fun b H' => Q (.bl b) H') AllGo) hroom hco h0 hi ok hcode hbm hs I h fun J c' H2 s4 s5 a gn it fp tn hRd R => ?_)
  obtain ⟨W, hW, turn⟩ := hRd
  refine Calls.spliced_nil ?_
  refine call_function_tree F.kind_all F.plain_all F.entry_all (F.args_all1 _) ?_
  unfold Builtin.«all»
  refine wpAny_bind (m := oneArg "all" _) (wpAny_pure ?_)
  refine wpAny_bind (wpAny_pyIter_gen R.gen ?_)
  have rk : Mir.RoomG k X.A.in1.in1 := ⟨⟨hr.r.hd, by have := hr.r.dp; show X.A.depth + 3 * k + 5 < _; omega, by have := hr.r.un; show X.A.units + 1 + 1 + 16 * k + 200 < _; omega⟩, hr.g⟩
  have lt := R.lt
  obtain ⟨go, nm, qn, hgc, hgd, hgs, sg⟩ := R.seg (A := X.A.in1.in1) (S := none) (s2 := s5.setGen gn .running) (g := g) (te := te c') (Go := AllGo) ok hN hco hr.r.hd I.ok.frames (fun b o e => e) R.os (allBare_setGen R.bare rfl) (fun S' e => nomatch e) (fun pn => hg _ _ _ _ _ _ _ rk) (fun pn => he _ _ _ _ _ _ _ rk) turn hW
  refine wpAny_pure ⟨plainId_quiet F.plain_all_loop _, ?_⟩
  refine all_loop (Y := gxCx X X.A.in1.in1 s4 H2 scope (gxEnv X.env scope s4.heap.objs.size (.ref c')) fp [(a, go)]) (A := X.A) (Q0 := fun b H' => Q (.bl b) H') hr.r.hd hroom (fun {ip ys σ' H' s'} gj => ?_) (fun b ip ys σ' H' s1 gs' h' gj hb hk hq => ?_) sizeLine s5 _ R.gen ?_ R.fresh ⟨rfl, sg⟩
  · obtain ⟨acc, cc, _, J'⟩ := gj
    have e := (J'.pin (a, go) (List.mem_append_left _ (List.mem_singleton.mpr rfl))).1
    exact ⟨go, nm, qn, e, hgc, hgd, hgs⟩
  · exact ⟨.bl b, H', back R (Y := gxCx X X.A.in1.in1 s4 H2 scope (gxEnv X.env scope s4.heap.objs.size (.ref c')) fp [(a, go)]) ⟨rfl, rfl, rfl, rfl, rfl, rfl⟩ gj (s' := { s1.setGen gn gs' with heap := h' }) rfl hk (allBare_setGen gj.bare hb), rfl, hq⟩
  · exact R.inv.nolimit.keeps fun b o e => R.kp b o (Nat.ne_of_lt (Heap.lt_size e)) (pushCells_keeps _ _ _ _ (Heap.get?_push_of_some _ e))
end Gx
/-! Generator expressions: tuple(..). -/
namespace Gx
open PySem PySem.Spec PyProof.Rows L2 GenW
open Mir (TabG CodeO codeO_tbl codeO_lst)
abbrev EF : XK := fun _ _ _ => False
theorem no_cx {P : Program} {w : World} {outer : List Env} {H : Hp} {s : Shared} {e : Value} {s' : Shared} (h : L2.CX P w outer H s EF e s') : False := by
  obtain ⟨_, _, _, _, _, _, _, _, _, _, _, _, hf⟩ := h
  exact hf
/-- a generator that has not begun (GenCall's, where no container is being shown) -/
def GMadeG (P : Program) (w : World) (k : Nat) (outer : List PySem.Env) (H : Hp) (s : Shared) (ex : List Addr) (Q : List V → Hp → Prop) (E : XK) (u : Value) (s' : Shared) : Prop :=
  ∃ (a : Addr) (g : Nat) (c : Code), u = .ref a ∧ s.heap.objs.size ≤ a ∧ a < s'.heap.objs.size ∧ s'.heap.IsGen a g ∧ s'.gens[g]? = some (.fresh c) ∧ s'.os = s.os ∧ AllBare s'.gens ∧ s'.heap.NoLimit ∧ (∀ b o, s.heap.get? b = some o → s'.heap.get? b = some o) ∧
    ∀ (A : Around) (S : Addr) (s2 : Shared), Mir.RoomG k A → A.frames = some outer → s'.heap.objs.size ≤ S → (∀ b o, s'.heap.get? b = some o → s2.heap.get? b = some o) → (∃ c, s2.heap.get? S = some (lstObj #[] c)) → s2.os = s.os → AllBare s2.gens →
      Seg (model P w) A (REnd P w outer H s ex S a g Q E) (YItem s S a g) sizeLine s2 c ((model P w).den c) [] s2
theorem Ready.made {X : Cx} {pins : List (Addr × Obj)} {σ : L2.St} {elt tg iter : Expr} {scope : Scope} {own : List (Str × Nat)} {pos : Pos} {J : It} {c' : Addr} {H : Hp} {s4 s5 : Shared} {a gn it : Addr} {fp : List Addr} {tn : Nat → Heap → Prop} {k : Nat}
    (R : Ready X pins σ elt tg iter scope pos J c' H s4 s5 a gn it fp tn) (ok : BlkOk X.N X.env.scope scope own) (hN : X.N.Nodup) (hco : scope.isCoroutine = false) {g : TG} {te : TE} {W : Nat → List V → Hp → Prop} {Qe : List V → Hp → Prop}
    (hg : ∀ (A : Around) pn, Mir.RoomG k A → PG (gxCx X A s4 H scope (gxEnv X.env scope s4.heap.objs.size (.ref c')) fp pn) tg g) (he : ∀ (A : Around) pn, Mir.RoomG k A → PE (gxCx X A s4 H scope (gxEnv X.env scope s4.heap.objs.size (.ref c')) fp pn) elt te)
    (turn : Turns J (own.map (·.2)) σ g te W Qe (fun _ _ _ => True) (fun _ => True)) (hW : W 0 [] H) : GMadeG X.prog X.w k X.stack H s4 fp Qe EF (.ref a) s5 := by
  refine ⟨a, gn, _, rfl, Nat.le_of_lt R.above, R.lt, R.gen, R.fresh, R.os, R.bare, R.inv.nolimit.keeps fun b o e => R.kp b o (Nat.ne_of_lt (Heap.lt_size e)) (pushCells_keeps _ _ _ _ (Heap.get?_push_of_some _ e)),
    fun b o e => R.kp b o (Nat.ne_of_lt (Heap.lt_size e)) (pushCells_keeps _ _ _ _ (Heap.get?_push_of_some _ e)), ?_⟩
  intro A S s2 hr hfr hS hk hc hos hb
  obtain ⟨go, nm, qn, hgc, hgd, hgs, sg⟩ := R.seg (A := A) (S := some S) (s2 := s2) (g := g) (te := te) (Go := fun _ => True) ok hN hco hr.r.hd hfr hk hos hb (fun S' e => by cases e; exact ⟨hS, hc⟩) (fun pn => hg A pn hr) (fun pn => he A pn hr) turn hW
  refine seg_imp (fun n s₀ r s hR => ?_) (fun n s₀ v s kap kap' hkk hY => ?_) sizeLine sg
  · obtain ⟨hr, ys, σ', H', hn, ⟨acc, c, rv, I⟩, hq⟩ := hR
    obtain ⟨q1, q2, _⟩ := I.pin (S, lstObj acc c) (List.mem_append_right _ (List.mem_append_left _ (List.mem_singleton.mpr rfl)))
    exact .inl ⟨.inr hr, H', ys, acc, c, I.os, I.bare, I.base, I.hok, q2, q1, rv (fun z => nomatch z), by omega, hq⟩
  · obtain ⟨ys, x, ip, σ', H', hn, rx, ⟨acc, c, rv, I⟩, _, h3⟩ := hY
    obtain ⟨q1, q2, _⟩ := I.pin (S, lstObj acc c) (List.mem_append_right _ (List.mem_append_left _ (List.mem_singleton.mpr rfl)))
    have e := (I.pin (a, go) (List.mem_append_left _ (List.mem_singleton.mpr rfl))).1
    have hsz : acc.size = ys.length := by
      have e1 := (rv (fun z => nomatch z)).length
      have e2 : acc.toList.length = acc.size := by simp
      omega
    exact ⟨I.os, I.bare, I.nolimit, ⟨go, nm, qn, e, hgc, hgd, hgs⟩, ⟨acc, c, q1, by rw [hsz]; exact hn⟩, fun s' z => hkk _ _ (h3 s' trivial ⟨z.os, z.bare, fun b o hb e => z.keep b o (fun n => hb (by rw [n])) e, fun S' e => by cases e; exact z.own⟩)⟩

theorem wpAny_collect_G {P : Program} {w : World} {outer : List Env} {H : Hp} {sc s : Shared} {ex : List Addr} {Qe : List V → Hp → Prop} {A : Around} {k : Nat} {a : Addr} {Q : List Value → Shared → Prop} {E : Value → Shared → Prop}
    (hr : Mir.RoomG (k + 1) A) (hfr : A.frames = some outer) (h : GMadeG P w k outer H sc ex Qe EF (.ref a) s)
    (hQ : ∀ (s' : Shared) (acc : Array Value) (H' : Hp) (ys : List V), s.heap.objs.size ≤ s'.heap.objs.size → Vals ys acc.toList → ys.length ≤ sizeLine → s'.os = sc.os → AllBare s'.gens → Un (frs outer) ex H H' sc.heap s'.heap → HOk P w H' s'.heap → Qe ys H' → Q acc.toList s') :
    wpAny (model P w) A (collect (.ref a)) Q E s := by
  obtain ⟨a', g, c, ea, ha1, ha2, hg, hgs, hos, hb, hl, hkp, wake⟩ := h
  cases ea
  have hSa : s.heap.objs.size ≠ a := Nat.ne_of_gt ha2
  have hcl : cStatics < s.heap.objs.size := let ⟨_, hn, _⟩ := hl; hn.lt
  have hSc : s.heap.objs.size ≠ cStatics := Nat.ne_of_gt hcl
  unfold collect
  refine wpAny_bind (wpAny_runValue (codeAny_builtin F.entry_proto_collect ?_))
  rw [Around.under_plainId F.plain_proto_collect _]
  show wpAny _ A.in1 (newList [] >>= fun l => again (.builtin "list.__iadd__" ⟨[l, .ref a], []⟩)) _ _ s
  refine wpAny_bind (wpAny_newObj_type ?_)
  refine wpAny_pure ⟨plainId_quiet F.plain_list_iadd _, codeAny_builtin F.entry_list_iadd ?_⟩
  rw [Around.under_plainId F.plain_list_iadd _]
  have k1 : ∀ b o, s.heap.get? b = some o → (s.heap.push { cls := .type "list", data := .seq ([] : List Value).toArray }).get? b = some o := fun b o e => Heap.get?_push_of_some _ e
  have gty : ∀ {h : Heap}, (∀ b o, s.heap.get? b = some o → h.get? b = some o) → h.IsGen a g := fun {h} q => hg.keeps q
  show wpAny _ A.in1 (Builtin.List.listExtendWith (.ref s.heap.objs.size) (.ref a) (.ref s.heap.objs.size)) _ _ _
  unfold Builtin.List.listExtendWith
  refine wpAny_bind (wpAny_typeOf (Heap.IsGen.typeIs (s := { s with heap := _ }) (gty k1)) ?_)
  have h1 : Builtin.List.listSameRef (.ref s.heap.objs.size) (.ref a) = false := by simp [Builtin.List.listSameRef, hSa]
  have h2 : (Value.type "generator" == Value.type "list") = false := by decide
  have h3 : (Value.type "generator" == Value.type "tuple") = false := by decide
  simp only [h1, h2, h3, Bool.or_false, Bool.false_eq_true, if_false]
  refine wpAny_bind (wpAny_pyIter_gen (s := { s with heap := _ }) (gty k1) ?_)
  refine wpAny_bind (wpAny_holding ?_)
  unfold Builtin.List.listLengthHint
  refine wpAny_bind (wpAny_specialOf (Heap.IsGen.typeIs (s := { s with heap := _ }) (gty k1)) F.gen_no_len ?_)
  show wpAny _ A.in1 (specialOf (Value.ref a) (Str.ofString "__length_hint__") >>= _) _ _ _
  refine wpAny_bind (wpAny_specialOf (Heap.IsGen.typeIs (s := { s with heap := _ }) (gty k1)) F.gen_no_hint ?_)
  refine wpAny_pure ?_
  show wpAny _ A.in1 (rule "list.extend.makes-room" >>= fun _ => Builtin.List.listTouch (.ref s.heap.objs.size) >>= fun _ =>
    again (.builtin "list.extend.loop" ⟨[.ref s.heap.objs.size, .ref a, .ref s.heap.objs.size], []⟩)) _ _ _
  refine wpAny_bind (wpAny_rule ?_)
  have hS₁ : (s.heap.push { cls := .type "list", data := .seq ([] : List Value).toArray }).get? s.heap.objs.size = some { cls := .type "list", data := .seq ([] : List Value).toArray } := Heap.get?_push_size _ rfl
  refine wpAny_bind ?_
  show wpAny _ A.in1 (updateSeq s.heap.objs.size (·.push .none) >>= fun _ => updateSeq s.heap.objs.size (·.pop)) _ _ _
  refine wpAny_bind (wpAny_updateSeq hS₁ rfl ?_)
  have hS₂ := Heap.get?_update_self (Obj.mapSeq (·.push Value.none)) hS₁ rfl
  refine wpAny_updateSeq hS₂ rfl ?_
  have hS₃ := Heap.get?_update_self (Obj.mapSeq (·.pop)) hS₂ rfl
  have oth : ∀ b o, b ≠ s.heap.objs.size → (s.heap.push { cls := .type "list", data := .seq ([] : List Value).toArray }).get? b = some o →
      (((s.heap.push { cls := .type "list", data := .seq ([] : List Value).toArray }).update s.heap.objs.size (Obj.mapSeq (·.push Value.none))).update s.heap.objs.size (Obj.mapSeq (·.pop))).get? b = some o :=
    fun b o hb e => (Heap.get?_update_other _ _ (Ne.symm hb)).trans ((Heap.get?_update_other _ _ (Ne.symm hb)).trans e)
  have k4 : ∀ b o, s.heap.get? b = some o → (((s.heap.push { cls := .type "list", data := .seq ([] : List Value).toArray }).update s.heap.objs.size (Obj.mapSeq (·.push Value.none))).update s.heap.objs.size (Obj.mapSeq (·.pop))).get? b = some o :=
    fun b o e => oth b o (Nat.ne_of_lt (Heap.lt_size e)) (k1 b o e)
  refine wpAny_pure ⟨plainId_quiet F.plain_extend_loop _, ?_⟩
  refine drain (P := P) (w := w) (outer := outer) (H := H) (sc := sc) (ex := ex) (Q := Qe) (EX := EF) (A := A) (g := g) (a := a) hr.r.hd (by have := hr.r.dp; omega) hSa hSc
    (fun s' acc c H' ys q1 q2 q3 q4 q5 q6 q7 q8 q9 => ?_) (fun e s' hc => (no_cx hc).elim) sizeLine _ (gty k4) (hl.keeps k4) ⟨_, hgs, rfl, ?_⟩
  · show wpAny _ A (load s.heap.objs.size >>= _) _ _ s'
    refine wpAny_bind (wpAny_load q1 ?_)
    exact wpAny_pure (hQ s' acc H' ys (Nat.le_of_lt (Heap.lt_size q1)) q2 q3 q4 q5 q6 q7 q9)
  · refine wake _ _ _ ⟨⟨hr.r.hd, ?_, ?_⟩, hr.g⟩ hfr (Nat.le_refl _) k4 ⟨_, hS₃⟩ hos (allBare_setGen (s := { s with heap := _ }) hb rfl)
    · have := hr.r.dp
      show A.depth + 3 * k + 5 < _
      omega
    · have := hr.r.un
      show A.units + 1 + 1 + 16 * k + 200 < _
      omega
theorem call_tuple_G {P : Program} {w : World} {outer : List Env} {H : Hp} {sc s : Shared} {ex : List Addr} {Qe : List V → Hp → Prop} {A : Around} {k : Nat} {a : Addr} {Q : Value → Shared → Prop} {E : Value → Shared → Prop}
    (hr : Mir.RoomG (k + 2) A) (hfr : A.frames = some outer) (h : GMadeG P w k outer H sc ex Qe EF (.ref a) s)
    (hQ : ∀ (s' : Shared) (acc : Array Value) (H' : Hp) (ys : List V), s.heap.objs.size ≤ s'.heap.objs.size → Vals ys acc.toList → ys.length ≤ sizeLine → s'.os = sc.os → AllBare s'.gens → Un (frs outer) ex H H' sc.heap s'.heap → HOk P w H' s'.heap → Qe ys H' →
      Q (.ref s'.heap.objs.size) { s' with heap := s'.heap.push { cls := .type "tuple", data := .seq acc } }) :
    wpAny (model P w) A (call (.type "tuple") [.ref a]) Q E s := by
  have hgen : ∃ g, s.heap.IsGen a g := by
    obtain ⟨a', g, c, ea, ha1, ha2, hg, _⟩ := id h
    cases ea
    exact ⟨g, hg⟩
  obtain ⟨g, hg⟩ := hgen
  have hTI : s.TypeIs (.ref a) "generator" := hg.typeIs
  refine callType_codes (Q₁ := fun obj s₁ => s₁.TypeIs obj "tuple" ∧ Q obj s₁) F.called_tuple (F.typeCall_tuple_1 _) F.entry_object_init ?_ fun obj s₁ h₁ => ?_
  · refine codeAny_of_tree ?_
    show wpAny _ A.in1.in1 (do checkBuiltinCall "tuple.__new__" ⟨[.type "tuple", .ref a], []⟩; again (.builtin "tuple.__new__" ⟨[.type "tuple", .ref a], []⟩)) _ _ s
    refine wpAny_bind (wpAny_of_eq (F.newCall_tuple_1 _) (wpAny_pure ⟨plainId_quiet F.plain_tuple_new _, codeAny_builtin F.entry_tuple_new ?_⟩))
    rw [Around.under_plainId F.plain_tuple_new _]
    have hsub := sub_tuple_self
    have hinit := init_tuple_lookup
    have hmh := madeHere_tuple
    have rk : Mir.RoomG (k + 1) A.in1.in1 := ⟨⟨hr.r.hd, by have := hr.r.dp; show A.depth + 3 * (k + 1) + 5 < _; omega, by have := hr.r.un; show A.units + 1 + 1 + 16 * (k + 1) + 200 < _; omega⟩, hr.g⟩
    have cg := fun (Q : List Value → Shared → Prop) (E : Value → Shared → Prop) => @wpAny_collect_G P w outer H sc s ex Qe A.in1.in1 k a Q E rk hfr h
    wp_walk using wpAny_typeOf hTI, cg
    intro s' acc H' ys hsz hv hle hos hb un hok hq
    show wpAny _ _ (Builtin.Tuple.tupleExact acc.toList.toArray >>= fun v => ret v) _ _ _
    unfold Builtin.Tuple.tupleExact
    have hs : acc.size = ys.length := by
      have e1 := hv.length
      have e2 : acc.toList.length = acc.size := by simp
      omega
    refine wpAny_bind (wpAny_newObj_type ?_ (by show acc.toList.toArray.size ≤ sizeLine; simp only [Array.toArray_toList]; rw [hs]; exact hle))
    refine wpAny_pure ?_
    have e : acc.toList.toArray = acc := by simp
    rw [e]
    exact ⟨⟨_, Heap.get?_push_size _ rfl, rfl⟩, hQ s' acc H' ys hsz hv hle hos hb un hok hq⟩
  · exact ⟨h₁.1, F.args_object_init_2 obj _, object_init_meets F.called_tuple.init.lookup F.called_tuple.made (by decide) P w A.in1 _ s₁ ⟨h₁.1, rfl, h₁.2⟩⟩
/-- tuple(elt for tg in iter) -/
def tTupX (X : Cx) (P c : Addr) (us : List Nat) (wi : TI) (g : TG) (te : Addr → TE) : TE := fun σ H Q => wi σ H fun J H1 => TabG H1 P ∧ CodeIn X H1 c P ∧ ∀ c' P' H2, Grown H1 H2 0 → H2 c' = some (CodeO c' P') → TabG H2 P' →
  ∃ W : Nat → List V → Hp → Prop, W 0 [] H2 ∧ Turns J us σ g (te c') W (fun ys H' => ∀ p, H' p = none → Q (.ref p) (upd H' p (.tup ys))) (fun _ _ _ => True) (fun _ => True)
theorem pe_tupX {X : Cx} {elt tg iter : Expr} {scope : Scope} {own : List (Str × Nat)} {p pos gpos : Pos} {wi : TI} {c P : Addr} {g : TG} {te : Addr → TE} {k : Nat} (hr : Mir.RoomG (k + 2) X.A) (hgl : Gl X "tuple") (hm : X.mg "tuple" = none) (hN : X.N.Nodup) (hco : scope.isCoroutine = false) (h0 : scope.names.lookup (".0" : Str) = some .local) (hi : PI X tg iter wi)
    (ok : BlkOk X.N X.env.scope scope own) (hcode : X.env.code = .ref c) (hbm : ∃ P0, X.base.BuiltinsAt X.mg P0) (hs : ∀ v, genFold iter X.env v = pure v)
    (hg : ∀ (A : Around) (s : Shared) (H : Hp) (L c' : Addr) (fp : List Addr) (pn : List (Addr × Obj)), Mir.RoomG k A → PG (gxCx X A s H scope (gxEnv X.env scope L (.ref c')) fp pn) tg g)
    (he : ∀ (A : Around) (s : Shared) (H : Hp) (L c' : Addr) (fp : List Addr) (pn : List (Addr × Obj)), Mir.RoomG k A → PE (gxCx X A s H scope (gxEnv X.env scope L (.ref c')) fp pn) elt (te c'))
    (hst : starEach [.GeneratorExp elt [⟨tg, iter, [], 0⟩] scope gpos] X.env = (false, eval (.GeneratorExp elt [⟨tg, iter, [], 0⟩] scope gpos) X.env) :: starEach [] X.env := by rfl) :
    PE X (.Call (.Name "tuple" p) [.GeneratorExp elt [⟨tg, iter, [], 0⟩] scope gpos] [] pos) (tTupX X P c (own.map (·.2)) wi g te) := by
  refine ⟨fun pins s σ H Q I h => ?_⟩
  have hroom : X.A.depth < recursionLimit := by have := hr.r.dp; omega
  refine wpAny_Call_Name_kw (ld_blt I hgl hm (by rfl) ?_)
  refine PyProof.Rows.callWith_type1 ?_ hst rfl
  rw [hst]
  show wpAny _ _ (spliced ((false, eval (.GeneratorExp elt [⟨tg, iter, [], 0⟩] scope gpos) X.env) :: backTo pos (starEach [] X.env))) _ _ s
  refine Calls.spliced_cons (gx_make (c := c) (P := P) (own := own) (Rd := fun J c' H2 => ∃ W : Nat → List V → Hp → Prop, W 0 [] H2 ∧ Turns J (own.map fun q : Str × Nat => q.2) σ g (te c') W (fun ys H' => ∀ p, H' p = none → Q (.ref p) (upd H' p (.tup ys))) (fun _ _ _ => True) (fun _ => True)) hroom hco h0 hi ok hcode hbm hs I h fun J c' H2 s4 s5 a gn it fp tn hRd R => ?_)
  obtain ⟨W, hW, turn⟩ := hRd
  refine Calls.spliced_nil ?_
  refine call_tuple_G (k := k) hr I.ok.frames (R.made ok hN hco (fun A pn rk => hg _ _ _ _ _ _ _ rk) (fun A pn rk => he _ _ _ _ _ _ _ rk) turn hW) fun s' acc H' ys hsz hv hle hos hb un hok hq => ?_
  have J' : Inv X pins σ H' s' := R.inv.call' (ch := fp) hos un hok hb fun b hb => ⟨(R.fp b hb).1.2.2.2.1, (R.fp b hb).1.2.1, (R.fp b hb).1.2.2.2.2.1, (R.fp b hb).1.2.2.2.2.2⟩
  refine ⟨.ref s'.heap.objs.size, _, J'.laid (t' := s'.toks) (fun b o e => Heap.get?_push_of_some _ e) (Nat.le_refl _) (show ObjOk X.prog X.w _ _ _ (.tup ys) from ⟨hle, acc.toList, hv, ?_⟩), rfl, hq _ (J'.hok.fresh (Nat.le_refl _))⟩
  have e : acc.toList.toArray = acc := by simp
  rw [e]
  exact ⟨_, Heap.get?_push_size _ rfl, rfl, _, rfl⟩
end Gx
/-! The mirror's generator expressions. -/
namespace Mir
open PySem PySem.Spec PyProof.Rows L2 Gx

/-- the ground of a generator expression's body: its own code's table known, too -/
abbrev Bd.rg (B : Bd) (H G : Hp) (io : List (Nat × Addr)) (P' : Addr) : Bd := ⟨B.K, H, G, B.mu, io, P' :: B.T, fun _ _ _ _ => False⟩
section
variable {B : Bd} {σ σ' : L2.St} {H G H' G' : Hp} {env env' : ME} {P' : Addr}
theorem Rel.rg (R : Rel B σ H G env) (t : TabG H P') : Rel (B.rg H G (ioAll B.mu σ env) P') σ H G env := by
  have q := R.re
  exact ⟨⟨q.gnd.sub, q.gnd.g0, q.gnd.fr, q.gnd.nw, q.gnd.nt, fun P hP => by
    rcases List.mem_cons.mp hP with e | e
    · rw [e]; exact t
    · exact q.gnd.tab P e, q.gnd.keep⟩, q.len, q.imm, fun i d h hm => by
    obtain ⟨b, h1, h2, h3⟩ := q.mt i d h hm
    exact ⟨b, h1, ⟨h2.ex, h2.out⟩, h3⟩, q.inj, fun p hp => q.iok p hp⟩
theorem Rel.unrg (R : Rel B σ H G env) (R' : Rel (B.rg H G (ioAll B.mu σ env) P') σ' H' G' env') : Rel B σ' H' G' env' :=
  R.un ⟨⟨R'.gnd.sub, R'.gnd.g0, R'.gnd.fr, R'.gnd.nw, R'.gnd.nt, fun P hP => R'.gnd.tab P (List.mem_cons_of_mem _ hP), R'.gnd.keep⟩, R'.len, R'.imm, fun i d h hm => by
    obtain ⟨b, h1, h2, h3⟩ := R'.mt i d h hm
    exact ⟨b, h1, ⟨h2.ex, h2.out⟩, h3⟩, R'.inj, fun p hp => R'.iok p hp⟩
/-- tables have grown -/
theorem Rel.grown {n : Nat} (R : Rel B σ H G env) (g : Grown H H' n) : Rel B σ H' G env := by
  refine R.stepS ⟨fun a o h => g.fr a o (R.gnd.sub a o h) (fun ps z => R.gnd.nt a ps (by rw [← z]; exact h)), R.gnd.g0, fun a o h h1 h2 => g.fr a o (R.gnd.fr a o h h1 h2) h2, R.gnd.nw, R.gnd.nt, fun P hP => g.tab P (R.gnd.tab P hP), fun a h => R.gnd.keep a (g.keep a h)⟩ (Le.refl G) fun i d b xs h1 h2 h3 h4 h5 => ⟨?_, h5⟩
  rw [h4]
  exact g.fr b _ h4 fun ps z => by cases z
/-- what a slot that changes holds is a list -/
theorem io_lst (R : Rel B σ H G env) {c : Addr} {P : Addr} (hc : H c = some (CodeO c P)) : ∀ p ∈ ioAll B.mu σ env, p.2 ≠ c := fun p hp z => by
  obtain ⟨h1, ⟨d, h2⟩, h3⟩ := of_ioAll hp
  obtain ⟨b, h4, h5, _⟩ := R.mt p.1 d h2 h1
  rw [h3] at h4
  cases h4
  obtain ⟨xs, _, _, h6, _⟩ := h5.ex
  rw [z, hc] at h6
  exact codeO_lst xs (Option.some.inj h6)
end
/-- the targets and the elements, whatever the ground -/
def gAny (B : Bd) (us : List Nat) (g : D → M Unit) : TG := fun v σ H Q => ∃ H0 G0 io P', tGL (B.rg H0 G0 io P') us g v σ H Q
def eAny (B : Bd) (el : M D) (c' : Addr) : TE := fun σ H Q => ∃ H0 G0 io P', H0 c' = some (CodeO c' P') ∧ (∀ p ∈ io, p.2 ≠ c') ∧ tE (B.rg H0 G0 io P') el σ H Q
/-- a turn -/
theorem gx_step {B : Bd} {σ : L2.St} {us : List Nat} {g : D → M Unit} {el : M D} {α : Type} {F : D → M α} {K : α → ME → Prop} {J : It} {ds : List D} {d : D} {i : Nat} {c' P' : Addr} {H G1 G2 : Hp} {env2 : ME} {Post : V → Hp → Prop} (hmu : ∀ v ∈ us, B.mu.getD v false = false)
    (itr : Iter B G1 J ds) (l2 : Le G1 G2) (R2 : Rel B (L2.wipe σ us) H G2 env2) (t2 : TabG H P') (hc : H c' = some (CodeO c' P')) (hd : ds[i]? = some d) (k2 : FineD (bnd (g d) (fun _ => bnd el F) env2) K)
    (post : ∀ yv yd H5 G5 e5, Le G2 G5 → Rel B (L2.wipe σ us) H5 G5 (wipeE e5 us) → TabG H5 P' → H5 c' = some (CodeO c' P') → Dq B.K G5 yv yd → FineD (F yd e5) K → Post yv H5) :
    J.go i H ∧ ∀ x H', J.yld i H x H' → gAny B us g x (L2.wipe σ us) H' fun σ2 H2 => L2.wipe σ2 us = L2.wipe σ us ∧ eAny B el c' σ2 H2 Post := by
  obtain ⟨_, i2⟩ := itr i (L2.wipe σ us) H G2 env2 l2 R2
  obtain ⟨g1, g2⟩ := i2 d hd
  refine ⟨g1, fun x H3 hy => ?_⟩
  obtain ⟨G3, l3, R3, hdq, kH, kG⟩ := g2 x H3 hy
  have t3 : TabG H3 P' := t2.ext fun b o e _ => kH b o e
  have hc3 : H3 c' = some (CodeO c' P') := kH _ _ hc
  refine ⟨H3, G3, ioAll B.mu (L2.wipe σ us) env2, P', G3, env2, d, R3.rg t3, hdq, (fine_bnd k2).good.imp fun _ e4 k4 σ4 H4 G4 o4 l4 R4 => ⟨wipe_off o4, H3, G3, ioAll B.mu (L2.wipe σ us) env2, P', hc3, io_lst R3 hc3, G4, e4, R4, (fine_bnd k4).good.imp fun yd e6 k6 v H6 G6 l6 R6 r6 => ?_⟩⟩
  have q := (R3.unrg R6).wipe us hmu
  rw [wipe_off o4] at q
  exact post v yd H6 G6 e6 ((l3.trans l4).trans l6) q (R6.gnd.tab P' List.mem_cons_self) (R6.gnd.fr c' _ hc3 (io_lst R3 hc3) codeO_tbl) r6 k6

/-- the items that it hands out, all of them -/
def mGen (us : List Nat) (g : D → M Unit) (el : M D) : List D → List D → M (List D)
  | [], acc => ret acc
  | d :: r, acc => if fits acc.length = true then bnd (g d) fun _ => bnd el fun y => (fun e => mGen us g el r (acc ++ [y]) (wipeE e us)) else bad
def mTupG (us : List Nat) (src : M (List D)) (g : D → M Unit) (el : M D) : M D := bnd src fun ds => fun env => match mGen us g el ds [] (wipeE env us) with
  | .ok acc env' => if fits acc.length = true then .ok (.tuple acc) (unwipe us env env') else .bad
  | _ => .bad
/-- are all true? n: how many were -/
def mAlls (us : List Nat) (g : D → M Unit) (el : M D) : List D → Nat → M Bool
  | [], _ => ret true
  | d :: r, n => if fits n = true then bnd (g d) fun _ => bnd el fun y => (match y with
    | .bool true => fun e => mAlls us g el r (n + 1) (wipeE e us)
    | .bool false => fun e => .ok false (wipeE e us)
    | _ => bad) else bad
def mAllG (us : List Nat) (src : M (List D)) (g : D → M Unit) (el : M D) : M D := bnd src fun ds => fun env => match mAlls us g el ds 0 (wipeE env us) with
  | .ok b env' => .ok (.bool b) (unwipe us env env')
  | _ => .bad
theorem fits_lt {n : Nat} (h : fits n = true) : n < sizeLine := Nat.lt_of_le_of_lt (of_decide_eq_true h) (by decide)
/-- where a generator expression stands: its maker's code object at c, the table at P -/
structure GxIn (X : Cx) (B : Bd) (c P : Addr) : Prop where
  code : X.env.code = .ref c
  tab : P ∈ B.T
  known : PySem.W.CodeHd X.base c P ∨ (B.H0 c = some (CodeO c P) ∧ ∀ p ∈ B.io, p.2 ≠ c)
theorem GxIn.now {X : Cx} {B : Bd} {c P : Addr} {σ : L2.St} {H G : Hp} {env : ME} (h : GxIn X B c P) (R : Rel B σ H G env) : TabG H P ∧ CodeIn X H c P := by
  refine ⟨R.gnd.tab P h.tab, ?_⟩
  rcases h.known with k | ⟨k, k2⟩
  · exact .inl k
  · exact .inr (R.gnd.fr c _ k k2 codeO_tbl)
section
variable {X : Cx} {B : Bd}
theorem e_allG {elt tg iter : Expr} {scope : Scope} {ow : List (Str × Nat)} {p pos gpos : Pos} {src : M (List D)} {c P : Addr} {g : D → M Unit} {el : M D} {k : Nat} (us : List Nat) (hus : ow.map (·.2) = us) (hr : Mir.RoomG (k + 1) X.A) (hN : X.N.Nodup) (hi : PI X tg iter (tI B src)) (ok : BlkOk X.N X.env.scope scope ow)
    (hin : GxIn X B c P) (hbm : ∃ P0, X.base.BuiltinsAt X.mg P0) (hmu : ∀ v ∈ us, B.mu.getD v false = false)
    (hg : ∀ (H0 G0 : Hp) (io : List (Nat × Addr)) (P' : Addr) (A : Around) (s : Shared) (H : Hp) (L c' : Addr) (fp : List Addr) (pn : List (Addr × Obj)), Mir.RoomG k A → PG (gxCx X A s H scope (gxEnv X.env scope L (.ref c')) fp pn) tg (tGL (B.rg H0 G0 io P') us g))
    (he : ∀ (H0 G0 : Hp) (io : List (Nat × Addr)) (P' : Addr) (A : Around) (s : Shared) (H : Hp) (L c' : Addr) (fp : List Addr) (pn : List (Addr × Obj)), Mir.RoomG k A → GxIn (gxCx X A s H scope (gxEnv X.env scope L (.ref c')) fp pn) (B.rg H0 G0 io P') c' P' → PE (gxCx X A s H scope (gxEnv X.env scope L (.ref c')) fp pn) elt (tE (B.rg H0 G0 io P') el))
    (hm : X.mg "all" = none) (hgl : Gl X "all" := by rfl) (hco : scope.isCoroutine = false := by rfl) (h0 : scope.names.lookup (".0" : Str) = some .local := by rfl) (hs : ∀ v, genFold iter X.env v = pure v := by intro _; rfl)
    (hst : starEach [.GeneratorExp elt [⟨tg, iter, [], 0⟩] scope gpos] X.env = (false, eval (.GeneratorExp elt [⟨tg, iter, [], 0⟩] scope gpos) X.env) :: starEach [] X.env := by rfl) :
    PE X (.Call (.Name "all" p) [.GeneratorExp elt [⟨tg, iter, [], 0⟩] scope gpos] [] pos) (tE B (mAllG us src g el)) := by
  have hg' : ∀ (A : Around) (s : Shared) (H : Hp) (L c' : Addr) (fp : List Addr) (pn : List (Addr × Obj)), Mir.RoomG k A → PG (gxCx X A s H scope (gxEnv X.env scope L (.ref c')) fp pn) tg (gAny B us g) := fun A s H L c' fp pn rk => ⟨fun pins s' σ H' v u Q I r ⟨H0, G0, io, P', q⟩ => (hg H0 G0 io P' A s H L c' fp pn rk).run pins s' σ H' v u Q I r q⟩
  have he' : ∀ (A : Around) (s : Shared) (H : Hp) (L c' : Addr) (fp : List Addr) (pn : List (Addr × Obj)), Mir.RoomG k A → PE (gxCx X A s H scope (gxEnv X.env scope L (.ref c')) fp pn) elt (eAny B el c') := fun A s H L c' fp pn rk => ⟨fun pins s' σ H' Q I ⟨H0, G0, io, P', k1, k2, q⟩ => (he H0 G0 io P' A s H L c' fp pn rk ⟨rfl, List.mem_cons_self, .inr ⟨k1, k2⟩⟩).run pins s' σ H' Q I q⟩
  refine PE.imp (pe_allX (P := P) hr hgl hm hN hco h0 hi ok hin.code hbm hs hg' he') fun σ H Q ⟨G, env, R, gd⟩ => ⟨G, env, R, (good_bnd gd).imp fun ds e1 k J H1 G1 l1 R1 itr => ?_⟩
  obtain ⟨tb, ci⟩ := hin.now R1
  refine ⟨tb, ci, fun c' P' H2 gr hc' hP' => ?_⟩
  rw [hus]
  have R1' := R1.grown gr
  have kf : FineD (mAlls us g el ds 0 (wipeE e1 us)) fun b env' => ∀ H' G', Le G G' → Rel B σ H' G' (unwipe us e1 env') → Q (.bl b) H' := by
    cases hm : mAlls us g el ds 0 (wipeE e1 us) with
    | ok b env' => simp only [hm] at k; exact fun H' G' l R' => k (.bl b) H' G' l R' (.bl b)
    | exc _ _ => simp only [hm] at k; exact k.elim
    | bad => simp only [hm] at k; exact k.elim
  refine ⟨fun i ys H2 => i ≤ ds.length ∧ ys.length = i ∧ ∃ G2 env2, Le G1 G2 ∧ Rel B (L2.wipe σ us) H2 G2 env2 ∧ TabG H2 P' ∧ H2 c' = some (CodeO c' P') ∧ FineD (mAlls us g el (ds.drop i) i env2) fun b env' => ∀ H' G', Le G G' → Rel B σ H' G' (unwipe us e1 env') → Q (.bl b) H',
    ⟨Nat.zero_le _, rfl, G1, wipeE e1 us, Le.refl G1, R1'.wipe us hmu, hP', hc', kf⟩, ?_⟩
  rintro i ys H2 ⟨hil, hys, G2, env2, l2, R2, t2, hc2, k2⟩
  by_cases hi' : i < ds.length
  · have e : ds.drop i = ds[i] :: ds.drop (i + 1) := List.drop_eq_getElem_cons hi'
    rw [e] at k2
    unfold mAlls at k2
    by_cases hf : fits i = true
    · rw [if_pos hf] at k2
      have st := gx_step (Post := fun y H4 => (AllGo y → i + 1 ≤ ds.length ∧ (ys ++ [y]).length = i + 1 ∧ ∃ G2 env2, Le G1 G2 ∧ Rel B (L2.wipe σ us) H4 G2 env2 ∧ TabG H4 P' ∧ H4 c' = some (CodeO c' P') ∧ FineD (mAlls us g el (ds.drop (i + 1)) (i + 1) env2) fun b env' => ∀ H' G', Le G G' → Rel B σ H' G' (unwipe us e1 env') → Q (.bl b) H') ∧ AllCy (fun b H' => Q (.bl b) H') ys y H4)
        hmu itr l2 R2 t2 hc2 (List.getElem?_eq_getElem hi') k2 (by
          intro yv yd H5 G5 e5 l5 R5 t5 hc5 r5 k5
          cases r5 with
          | bl b =>
            cases b with
            | true => exact ⟨fun _ => ⟨hi', by rw [List.length_append, hys]; rfl, G5, _, l2.trans l5, R5, t5, hc5, k5⟩, true, rfl, fun z => Bool.noConfusion z⟩
            | false =>
              refine ⟨fun z => ?_, false, rfl, fun _ => ?_⟩
              · have z : V.bl false = V.bl true := z
                cases z
              · exact k5 H5 G5 (l1.trans (l2.trans l5)) (R1'.unwipe (l2.trans l5) hmu R5)
          | _ => exact k5.elim)
      exact .inr ⟨st.1, by rw [hys]; exact fits_lt hf, st.2⟩
    · rw [if_neg hf] at k2
      exact k2.elim
  · have e : ds.drop i = [] := List.drop_eq_nil_of_le (by omega)
    rw [e] at k2
    obtain ⟨i1, _⟩ := itr i (L2.wipe σ us) H2 G2 env2 l2 R2
    exact .inl ⟨i1 (by omega), k2 H2 G2 (l1.trans l2) (R1'.unwipe l2 hmu R2)⟩
theorem e_tupG {elt tg iter : Expr} {scope : Scope} {ow : List (Str × Nat)} {p pos gpos : Pos} {src : M (List D)} {c P : Addr} {g : D → M Unit} {el : M D} {k : Nat} (us : List Nat) (hus : ow.map (·.2) = us) (hr : Mir.RoomG (k + 2) X.A) (hN : X.N.Nodup) (hi : PI X tg iter (tI B src)) (ok : BlkOk X.N X.env.scope scope ow)
    (hin : GxIn X B c P) (hbm : ∃ P0, X.base.BuiltinsAt X.mg P0) (hmu : ∀ v ∈ us, B.mu.getD v false = false)
    (hg : ∀ (H0 G0 : Hp) (io : List (Nat × Addr)) (P' : Addr) (A : Around) (s : Shared) (H : Hp) (L c' : Addr) (fp : List Addr) (pn : List (Addr × Obj)), Mir.RoomG k A → PG (gxCx X A s H scope (gxEnv X.env scope L (.ref c')) fp pn) tg (tGL (B.rg H0 G0 io P') us g))
    (he : ∀ (H0 G0 : Hp) (io : List (Nat × Addr)) (P' : Addr) (A : Around) (s : Shared) (H : Hp) (L c' : Addr) (fp : List Addr) (pn : List (Addr × Obj)), Mir.RoomG k A → GxIn (gxCx X A s H scope (gxEnv X.env scope L (.ref c')) fp pn) (B.rg H0 G0 io P') c' P' → PE (gxCx X A s H scope (gxEnv X.env scope L (.ref c')) fp pn) elt (tE (B.rg H0 G0 io P') el))
    (hm : X.mg "tuple" = none) (hgl : Gl X "tuple" := by rfl) (hco : scope.isCoroutine = false := by rfl) (h0 : scope.names.lookup (".0" : Str) = some .local := by rfl) (hs : ∀ v, genFold iter X.env v = pure v := by intro _; rfl)
    (hst : starEach [.GeneratorExp elt [⟨tg, iter, [], 0⟩] scope gpos] X.env = (false, eval (.GeneratorExp elt [⟨tg, iter, [], 0⟩] scope gpos) X.env) :: starEach [] X.env := by rfl) :
    PE X (.Call (.Name "tuple" p) [.GeneratorExp elt [⟨tg, iter, [], 0⟩] scope gpos] [] pos) (tE B (mTupG us src g el)) := by
  have hg' : ∀ (A : Around) (s : Shared) (H : Hp) (L c' : Addr) (fp : List Addr) (pn : List (Addr × Obj)), Mir.RoomG k A → PG (gxCx X A s H scope (gxEnv X.env scope L (.ref c')) fp pn) tg (gAny B us g) := fun A s H L c' fp pn rk => ⟨fun pins s' σ H' v u Q I r ⟨H0, G0, io, P', q⟩ => (hg H0 G0 io P' A s H L c' fp pn rk).run pins s' σ H' v u Q I r q⟩
  have he' : ∀ (A : Around) (s : Shared) (H : Hp) (L c' : Addr) (fp : List Addr) (pn : List (Addr × Obj)), Mir.RoomG k A → PE (gxCx X A s H scope (gxEnv X.env scope L (.ref c')) fp pn) elt (eAny B el c') := fun A s H L c' fp pn rk => ⟨fun pins s' σ H' Q I ⟨H0, G0, io, P', k1, k2, q⟩ => (he H0 G0 io P' A s H L c' fp pn rk ⟨rfl, List.mem_cons_self, .inr ⟨k1, k2⟩⟩).run pins s' σ H' Q I q⟩
  refine PE.imp (pe_tupX (P := P) hr hgl hm hN hco h0 hi ok hin.code hbm hs hg' he') fun σ H Q ⟨G, env, R, gd⟩ => ⟨G, env, R, (good_bnd gd).imp fun ds e1 k J H1 G1 l1 R1 itr => ?_⟩
  obtain ⟨tb, ci⟩ := hin.now R1
  refine ⟨tb, ci, fun c' P' H2 gr hc' hP' => ?_⟩
  rw [hus]
  have R1' := R1.grown gr
  have kf : FineD (mGen us g el ds [] (wipeE e1 us)) fun acc env' => fits acc.length = true ∧ ∀ x H' G', Le G G' → Rel B σ H' G' (unwipe us e1 env') → Dq B.K G' x (.tuple acc) → Q x H' := by
    cases hm : mGen us g el ds [] (wipeE e1 us) with
    | ok acc env' =>
      simp only [hm] at k
      by_cases hf : fits acc.length = true
      · rw [if_pos hf] at k; exact ⟨hf, k⟩
      · rw [if_neg hf] at k; exact k.elim
    | exc _ _ => simp only [hm] at k; exact k.elim
    | bad => simp only [hm] at k; exact k.elim
  refine ⟨fun i ys H2 => i ≤ ds.length ∧ ∃ G2 env2 accD, Le G1 G2 ∧ Rel B (L2.wipe σ us) H2 G2 env2 ∧ DqAll B.K G2 ys accD ∧ TabG H2 P' ∧ H2 c' = some (CodeO c' P') ∧ FineD (mGen us g el (ds.drop i) accD env2) fun acc env' => fits acc.length = true ∧ ∀ x H' G', Le G G' → Rel B σ H' G' (unwipe us e1 env') → Dq B.K G' x (.tuple acc) → Q x H',
    ⟨Nat.zero_le _, G1, wipeE e1 us, [], Le.refl G1, R1'.wipe us hmu, .nil, hP', hc', kf⟩, ?_⟩
  rintro i ys H2 ⟨hil, G2, env2, accD, l2, R2, hacc, t2, hc2, k2⟩
  by_cases hi' : i < ds.length
  · have e : ds.drop i = ds[i] :: ds.drop (i + 1) := List.drop_eq_getElem_cons hi'
    rw [e] at k2
    unfold mGen at k2
    by_cases hf : fits accD.length = true
    · rw [if_pos hf] at k2
      have st := gx_step (Post := fun y H4 => (True → i + 1 ≤ ds.length ∧ ∃ G2 env2 accD, Le G1 G2 ∧ Rel B (L2.wipe σ us) H4 G2 env2 ∧ DqAll B.K G2 (ys ++ [y]) accD ∧ TabG H4 P' ∧ H4 c' = some (CodeO c' P') ∧ FineD (mGen us g el (ds.drop (i + 1)) accD env2) fun acc env' => fits acc.length = true ∧ ∀ x H' G', Le G G' → Rel B σ H' G' (unwipe us e1 env') → Dq B.K G' x (.tuple acc) → Q x H') ∧ True)
        hmu itr l2 R2 t2 hc2 (List.getElem?_eq_getElem hi') k2 (by
          intro yv yd H5 G5 e5 l5 R5 t5 hc5 r5 k5
          exact ⟨fun _ => ⟨hi', G5, _, _, l2.trans l5, R5, DqAll.app (DqAll.mono l5 _ _ hacc) (.cons r5 .nil), t5, hc5, k5⟩, True.intro⟩)
      exact .inr ⟨st.1, by rw [Mir.DqAll.len hacc]; exact fits_lt hf, st.2⟩
    · rw [if_neg hf] at k2
      exact k2.elim
  · have e : ds.drop i = [] := List.drop_eq_nil_of_le (by omega)
    rw [e] at k2
    obtain ⟨i1, _⟩ := itr i (L2.wipe σ us) H2 G2 env2 l2 R2
    refine .inl ⟨i1 (by omega), fun p hp => ?_⟩
    have R' := R1'.unwipe l2 hmu R2
    have gp : G2 p = none := R'.gnd.sub.none hp
    exact k2.2 (.ref p) _ (upd G2 p (.tup ys)) ((l1.trans l2).trans (Le.new gp)) (R'.new hp fun ps z => by cases z) (.tup (.inl (.inl upd_same)) (DqAll.mono (Le.new gp) _ _ hacc))
end
end Mir
/-! The mirror's lists that change. -/
namespace Mir
open PySem PySem.Spec PyProof.Rows L2

/-- the list of slot i -/
def slotL (e : ME) (i : Nat) : Option (List D) := match e[i]? with
  | some (some (.list ds)) => some ds
  | _ => none
theorem slotL_at {e : ME} {i : Nat} {ds : List D} (h : slotL e i = some ds) : e[i]? = some (some (.list ds)) := by
  unfold slotL at h
  split at h
  · rename_i xs hx
    cases h
    exact hx
  · cases h
section
variable {B : Bd} {σ : L2.St} {H G : Hp} {env : ME}
theorem Rel.slot {i : Nat} {ds : List D} (R : Rel B σ H G env) (hm : B.mu.getD i false = true) (h : slotL env i = some ds) : ∃ b xs, σ[i]? = some (some (.ref b)) ∧ H b = some (.lst xs) ∧ DqAll B.K G xs ds ∧ G b = none := by
  obtain ⟨b, h1, ⟨⟨xs, ds', e, h3, h4⟩, h5⟩, _⟩ := R.mt i _ (slotL_at h) hm
  cases e
  exact ⟨b, xs, h1, h3, h4, h5⟩
theorem Rel.setL {i : Nat} {b : Addr} {ds es : List D} {ys : List V} (R : Rel B σ H G env) (hm : B.mu.getD i false = true) (hs : σ[i]? = some (some (.ref b))) (h : slotL env i = some ds) (ha : DqAll B.K G ys es) : Rel B σ (upd H b (.lst ys)) G (env.set i (some (.list es))) := R.write hm hs (slotL_at h) ha
/-- the slot lets its list go -/
theorem Rel.drop {i : Nat} (R : Rel B σ H G env) (hm : B.mu.getD i false = true) (hio : ∀ p ∈ B.io, p.1 ≠ i) : Rel B σ H G (env.set i none) := by
  have get : ∀ j (d : D), (env.set i none)[j]? = some (some d) → j ≠ i ∧ env[j]? = some (some d) := fun j d h => by
    by_cases z : j = i
    · subst z
      by_cases hl : j < env.length
      · rw [List.getElem?_set_self hl] at h; cases h
      · rw [List.getElem?_eq_none (by rw [List.length_set]; omega)] at h; cases h
    · rw [List.getElem?_set_ne (Ne.symm z)] at h
      exact ⟨z, h⟩
  refine ⟨R.gnd, by rw [List.length_set]; exact R.len, fun j d h hj => R.imm j d (get j d h).2 hj, fun j d h hj => R.mt j d (get j d h).2 hj, fun j k b d e h h' hj hk h1 h2 => R.inj j k b d e (get j d h).2 (get k e h').2 hj hk h1 h2, fun p hp => ?_⟩
  obtain ⟨h1, h2, d, h3⟩ := R.iok p hp
  exact ⟨h1, h2, d, by rw [List.getElem?_set_ne (Ne.symm (hio p hp))]; exact h3⟩
end
/-- do f, the slot's list must be there ahead -/
def atS {α : Type} (i : Nat) (f : M α) : M α := fun e => if (slotL e i).isSome = true then f e else .bad
/-- with the slot's list -/
def withS {α : Type} (i : Nat) (f : List D → M α) : M α := fun e => match slotL e i with
  | some ds => f ds e
  | none => .bad
theorem good_atS {α : Type} {B : Bd} {i : Nat} {f : M α} {e : ME} {k : α → ME → Prop} (g : Good B (atS i f e) k) : (∃ ds, slotL e i = some ds) ∧ Good B (f e) k := by
  unfold atS at g
  cases h : slotL e i with
  | none => rw [h] at g; exact False.elim g
  | some ds => rw [h] at g; exact ⟨⟨ds, rfl⟩, g⟩
theorem good_withS {α : Type} {B : Bd} {i : Nat} {f : List D → M α} {e : ME} {k : α → ME → Prop} (g : Good B (withS i f e) k) : ∃ ds, slotL e i = some ds ∧ Good B (f ds e) k := by
  unfold withS at g
  cases h : slotL e i with
  | none => rw [h] at g; exact False.elim g
  | some ds => rw [h] at g; exact ⟨ds, rfl, g⟩
/-- slot i gets this list -/
def putS (i : Nat) (ds : List D) : M Unit := fun e => .ok () (e.set i (some (.list ds)))
def mIxS (i : Nat) (f : M D) : M D := atS i (bnd f fun k => withS i fun ds => opt (dIx (.list ds) k))
def mLenS (i : Nat) : M D := withS i fun ds => ret (.int ds.length)
def mTupS (i : Nat) : M D := withS i fun ds => ret (.tuple ds)
/-- the slot's list becomes a value that is held fast -/
def mFrz (i : Nat) : M D := withS i fun ds => fun e => .ok (.list ds) (e.set i none)
def mApp (i : Nat) (f : M D) : M Fl := atS i (bnd f fun d => withS i fun ds => if fits ds.length = true then bnd (putS i (ds ++ [d])) fun _ => ret .nx else bad)
def mPop (i : Nat) : M D := withS i fun ds => match ds[ds.length - 1]? with
  | some d => bnd (putS i ds.dropLast) fun _ => ret d
  | none => bad
def dPopAt (k : Int) (ds : List D) : Option (D × List D) := if near k = true then (match seqIndex? k ds.length with
  | some j => (match ds[j]? with
    | some d => some (d, ds.eraseIdx j)
    | none => none)
  | none => none) else none
def mPopAt (i : Nat) (f : M D) : M D := atS i (bnd f fun k => match k with
  | .int k => withS i fun ds => (match dPopAt k ds with
    | some (d, ds') => bnd (putS i ds') fun _ => ret d
    | none => bad)
  | _ => bad)
def dPut (ds : List D) (k d : D) : Option (List D) := match k with
  | .int k => (ixN ds.length k).map fun j => ds.set j d
  | _ => none
/-- x[f] = d -/
def gPut (i : Nat) (f : M D) : D → M Unit := fun d => atS i (bnd f fun k => withS i fun ds => bnd (opt (dPut ds k d)) fun ds' => putS i ds')
section
variable {X : Cx} {B : Bd} {own : Bool} {i : Nat} {x : Str} {b e : Expr} {f : M D} {pos p apos : Pos}
theorem e_ixS (hK : B.K = X.K) (hb : PE X b (tE B f)) (hm : B.mu.getD i false = true := by rfl) (hN : X.N[i]? = some x := by rfl) (hv : Vis X.env.scope x := by first | exact Or.inl rfl | exact Or.inr (Or.inl rfl) | exact Or.inr (Or.inr rfl))
    (hd : (x == ("__debug__" : Str)) = false := by decide) (hcd : (x == ("__classdict__" : Str)) = false := by decide) (hs : PlainIx b := by exact fun _ _ => rfl) : PE X (.Subscript (.Name x p) b pos) (tE B (mIxS i f)) :=
  PE.imp (pe_ix ix_list (pe_var hN hv hd hcd) hb hs) fun σ H Q ⟨G, env, R, gd⟩ => by
    obtain ⟨⟨ds0, h0⟩, gd⟩ := good_atS gd
    obtain ⟨c, _, hσ, _⟩ := R.slot hm h0
    refine ⟨.ref c, hσ, G, env, R, (good_bnd gd).imp fun k e1 q y H1 G1 l1 R1 r1 => ?_⟩
    obtain ⟨ds, h1, q'⟩ := good_withS q
    obtain ⟨z, hz, q2⟩ := good_opt q'
    obtain ⟨c', xs, hσ', hc', ha, _⟩ := R1.slot hm h1
    rw [hσ] at hσ'
    cases hσ'
    rw [← hK]
    cases r1 with
    | int j =>
      simp only [dIx] at hz
      obtain ⟨v, h2, h3⟩ := atI_dq ha hz
      exact ⟨c, xs, j, v, rfl, rfl, .inl (.inl hc'), h2, q2 v H1 G1 l1 R1 h3⟩
    | _ => simp only [dIx, reduceCtorEq] at hz
theorem pa_slot (hN : X.N[i]? = some x) (hv : Vis X.env.scope x) (hd : (x == ("__debug__" : Str)) = false) (hcd : (x == ("__classdict__" : Str)) = false) (hs : starEach [.Name x p] X.env = (false, eval (.Name x p) X.env) :: starEach [] X.env) :
    PA X [.Name x p] (fun σ H Q => ∃ v, σ[i]? = some (some v) ∧ Q [v] H) := PA.imp (pa_cons (pe_var hN hv hd hcd) pa_nil hs) fun σ H Q ⟨v, h1, h2⟩ => ⟨v, h1, h2⟩
theorem e_lenS {q : Pos} (hK : B.K = X.K) (hmg : X.mg "len" = none) (hm : B.mu.getD i false = true := by rfl) (hg : Gl X "len" := by rfl) (hN : X.N[i]? = some x := by rfl) (hv : Vis X.env.scope x := by first | exact Or.inl rfl | exact Or.inr (Or.inl rfl) | exact Or.inr (Or.inr rfl))
    (hd : (x == ("__debug__" : Str)) = false := by decide) (hcd : (x == ("__classdict__" : Str)) = false := by decide) (hs : starEach [.Name x p] X.env = (false, eval (.Name x p) X.env) :: starEach [] X.env := by rfl) : PE X (.Call (.Name "len" q) [.Name x p] [] pos) (tE B (mLenS i)) :=
  PE.imp (pe_callB call_len_seq hg hmg rfl (pa_slot hN hv hd hcd hs)) fun σ H Q ⟨G, env, R, gd⟩ => by
    obtain ⟨ds, h, gd⟩ := good_withS gd
    obtain ⟨c, xs, hσ, hc, ha, _⟩ := R.slot hm h
    refine ⟨.ref c, hσ, c, xs, rfl, .inl (.inl (.inl hc)), ?_⟩
    rw [Mir.DqAll.len ha]
    exact gd _ H G (Le.refl G) R (.int _)
theorem e_tupS {q : Pos} (hK : B.K = X.K) (hmg : X.mg "tuple" = none) (hm : B.mu.getD i false = true := by rfl) (hg : Gl X "tuple" := by rfl) (hN : X.N[i]? = some x := by rfl) (hv : Vis X.env.scope x := by first | exact Or.inl rfl | exact Or.inr (Or.inl rfl) | exact Or.inr (Or.inr rfl))
    (hd : (x == ("__debug__" : Str)) = false := by decide) (hcd : (x == ("__classdict__" : Str)) = false := by decide) (hs : starEach [.Name x p] X.env = (false, eval (.Name x p) X.env) :: starEach [] X.env := by rfl) : PE X (.Call (.Name "tuple" q) [.Name x p] [] pos) (tE B (mTupS i)) :=
  PE.imp (pe_callTy call_tuple_of hg hmg rfl (pa_slot hN hv hd hcd hs)) fun σ H Q ⟨G, env, R, gd⟩ => by
    obtain ⟨ds, h, gd⟩ := good_withS gd
    obtain ⟨c, xs, hσ, hc, ha, _⟩ := R.slot hm h
    refine ⟨.ref c, hσ, c, xs, rfl, .inl ⟨.inl (.inl hc), fun l hl => ?_⟩⟩
    have gl : G l = none := R.gnd.sub.none hl
    exact gd (.ref l) _ (upd G l (.tup xs)) (Le.new gl) (R.new hl fun ps z => by cases z) (.tup (.inl (.inl upd_same)) (DqAll.mono (Le.new gl) _ _ ha))
theorem e_frz (hm : B.mu.getD i false = true := by rfl) (hio : ∀ p ∈ B.io, p.1 ≠ i := by intro p hp; first | exact absurd hp List.not_mem_nil | (cases hp with | head => (intro z; cases z) | tail _ h => exact absurd h List.not_mem_nil)) (hN : X.N[i]? = some x := by rfl) (hv : Vis X.env.scope x := by first | exact Or.inl rfl | exact Or.inr (Or.inl rfl) | exact Or.inr (Or.inr rfl))
    (hd : (x == ("__debug__" : Str)) = false := by decide) (hcd : (x == ("__classdict__" : Str)) = false := by decide) : PE X (.Name x p) (tE B (mFrz i)) :=
  PE.imp (pe_var hN hv hd hcd) fun σ H Q ⟨G, env, R, gd⟩ => by
    obtain ⟨ds, h, gd⟩ := good_withS gd
    obtain ⟨c, hσ, hw, h3⟩ := R.mt i _ (slotL_at h) hm
    refine ⟨.ref c, hσ, ?_⟩
    have R0 := R.drop hm hio
    have h0 : B.H0 c = none := by
      rcases h3 with h3 | ⟨h3, _⟩
      · exact absurd rfl (hio _ h3)
      · exact h3
    have fr : Fresh B σ (env.set i none) c := ⟨h0, fun j d hj hmj hσj => by
      by_cases z : j = i
      · subst z
        by_cases hl : j < env.length
        · rw [List.getElem?_set_self hl] at hj; cases hj
        · rw [List.getElem?_eq_none (by rw [List.length_set]; omega)] at hj; cases hj
      · rw [List.getElem?_set_ne (Ne.symm z)] at hj
        exact z (R.inj j i c d _ hj (slotL_at h) hmj hm hσj hσ)⟩
    obtain ⟨G2, l2, R2, r2⟩ := R0.freeze hw fr
    exact gd (.ref c) H G2 l2 R2 r2
/-- the slot's list handed back -/
theorem o_frz (hm : B.mu.getD i false = true := by rfl) (hio : ∀ p ∈ B.io, p.1 ≠ i := by intro p hp; first | exact absurd hp List.not_mem_nil | (cases hp with | head => (intro z; cases z) | tail _ h => exact absurd h List.not_mem_nil)) (hN : X.N[i]? = some x := by rfl) (hv : Vis X.env.scope x := by first | exact Or.inl rfl | exact Or.inr (Or.inl rfl) | exact Or.inr (Or.inr rfl))
    (hd : (x == ("__debug__" : Str)) = false := by decide) (hcd : (x == ("__classdict__" : Str)) = false := by decide) : PE X (.Name x p) (tO B (mFrz i)) :=
  PE.imp (pe_var hN hv hd hcd) fun σ H Q ⟨G, env, R, gd⟩ => by
    obtain ⟨ds, h, gd⟩ := good_withS gd
    obtain ⟨c, hσ, hw, h3⟩ := R.mt i _ (slotL_at h) hm
    refine ⟨.ref c, hσ, ?_⟩
    have R0 := R.drop hm hio
    have h0 : B.H0 c = none := by
      rcases h3 with h3 | ⟨h3, _⟩
      · exact absurd rfl (hio _ h3)
      · exact h3
    have fr : Fresh B σ (env.set i none) c := ⟨h0, fun j d hj hmj hσj => by
      by_cases z : j = i
      · subst z
        by_cases hl : j < env.length
        · rw [List.getElem?_set_self hl] at hj; cases hj
        · rw [List.getElem?_eq_none (by rw [List.length_set]; omega)] at hj; cases hj
      · rw [List.getElem?_set_ne (Ne.symm z)] at hj
        exact z (R.inj j i c d _ hj (slotL_at h) hmj hm hσj hσ)⟩
    exact gd c H G (Le.refl G) R0 hw fr
/-- x.append(e) -/
theorem s_app {cpos : Pos} (hK : B.K = X.K) (he : PE X e (tE B f)) (hm : B.mu.getD i false = true := by rfl) (hN : X.N[i]? = some x := by rfl) (hv : Vis X.env.scope x := by first | exact Or.inl rfl | exact Or.inr (Or.inl rfl) | exact Or.inr (Or.inr rfl))
    (hd : (x == ("__debug__" : Str)) = false := by decide) (hcd : (x == ("__classdict__" : Str)) = false := by decide)
    (hs : starEach [e] X.env = (false, eval e X.env) :: starEach [] X.env := by rfl) (hfew : ((backTo cpos (starEach [e] X.env)).all (fun x => !x.1) && (backToKw cpos (keywordEach [] X.env)).all (fun x => x.1.isSome)
      && decide (([e] : List Expr).length + ([] : List Keyword).length + (if ([] : List Keyword).isEmpty then 0 else 1) < 30)) = true := by rfl) (hline : (apos.endLine == cpos.line) = true := by rfl)
    (hbase : attributeBase (.Name x p) "append" X.env (eval (.Name x p) X.env) = eval (.Name x p) X.env := by rfl) (hsw : swapsWith (.Call (.Attribute (.Name x p) "append" apos) [e] [] cpos) none pos.line X.env = pure false := by rfl) :
    PS X (.Expr (.Call (.Attribute (.Name x p) "append" apos) [e] [] cpos) pos) (tS B own (mApp i f)) :=
  PS.imp (ps_expr (pe_bm PySem.F.plainAttrs_list PySem.F.slot_list_append PySem.F.type_list_append mt_append (pe_var hN hv hd hcd) (pa_cons he pa_nil hs) hbase hfew hline hs rfl) hsw) fun De σ H ⟨G, env, R, gd⟩ => by
    obtain ⟨⟨ds0, h0⟩, gd⟩ := good_atS gd
    obtain ⟨c, xs0, hσ, hc0, _⟩ := R.slot hm h0
    refine ⟨.ref c, hσ, .inl ⟨rfl, xs0, .inl (.inl hc0)⟩, G, env, R, (good_bnd gd).imp fun d e1 k y H1 G1 l1 R1 r1 => ?_⟩
    obtain ⟨ds, h1, k⟩ := good_withS k
    obtain ⟨c', xs, hσ', hc', ha, _⟩ := R1.slot hm h1
    rw [hσ] at hσ'
    cases hσ'
    by_cases hf : fits ds.length = true
    · rw [if_pos hf] at k
      refine ⟨c, xs, y, rfl, rfl, hc', by rw [Mir.DqAll.len ha]; exact fits_lt hf, ?_⟩
      exact k σ _ G1 l1 (R1.setL hm hσ h1 (DqAll.app ha (.cons r1 .nil)))
    · rw [if_neg hf] at k
      exact k.elim
theorem dqAll_erase {K : PySem.W.Frag} {G : Hp} : ∀ {xs : List V} {ds : List D} (j : Nat), DqAll K G xs ds → DqAll K G (xs.eraseIdx j) (ds.eraseIdx j)
  | _, _, _, .nil => .nil
  | _, _, 0, .cons _ t => t
  | _, _, j + 1, .cons r t => .cons r (dqAll_erase j t)
/-- x.pop(e) -/
theorem e_popAt {cpos : Pos} (he : PE X e (tE B f)) (hm : B.mu.getD i false = true := by rfl) (hN : X.N[i]? = some x := by rfl) (hv : Vis X.env.scope x := by first | exact Or.inl rfl | exact Or.inr (Or.inl rfl) | exact Or.inr (Or.inr rfl))
    (hd : (x == ("__debug__" : Str)) = false := by decide) (hcd : (x == ("__classdict__" : Str)) = false := by decide)
    (hs : starEach [e] X.env = (false, eval e X.env) :: starEach [] X.env := by rfl) (hfew : ((backTo cpos (starEach [e] X.env)).all (fun x => !x.1) && (backToKw cpos (keywordEach [] X.env)).all (fun x => x.1.isSome)
      && decide (([e] : List Expr).length + ([] : List Keyword).length + (if ([] : List Keyword).isEmpty then 0 else 1) < 30)) = true := by rfl) (hline : (apos.endLine == cpos.line) = true := by rfl)
    (hbase : attributeBase (.Name x p) "pop" X.env (eval (.Name x p) X.env) = eval (.Name x p) X.env := by rfl) :
    PE X (.Call (.Attribute (.Name x p) "pop" apos) [e] [] cpos) (tE B (mPopAt i f)) :=
  PE.imp (pe_bm PySem.F.plainAttrs_list PySem.F.slot_list_pop PySem.F.type_list_pop mt_popAt (pe_var hN hv hd hcd) (pa_cons he pa_nil hs) hbase hfew hline hs rfl) fun σ H Q ⟨G, env, R, gd⟩ => by
    obtain ⟨⟨ds0, h0⟩, gd⟩ := good_atS gd
    obtain ⟨c, xs0, hσ, hc0, _⟩ := R.slot hm h0
    refine ⟨.ref c, hσ, .inl ⟨rfl, xs0, .inl (.inl hc0)⟩, G, env, R, (good_bnd gd).imp fun d e1 k y H1 G1 l1 R1 r1 => ?_⟩
    cases r1 with
    | int n =>
      obtain ⟨ds, h1, k⟩ := good_withS k
      obtain ⟨c', xs, hσ', hc', ha, _⟩ := R1.slot hm h1
      rw [hσ] at hσ'
      cases hσ'
      have el : xs.length = ds.length := Mir.DqAll.len ha
      cases hp : dPopAt n ds with
      | none => simp only [hp] at k; exact k.elim
      | some q =>
        obtain ⟨d, ds'⟩ := q
        simp only [hp] at k
        unfold dPopAt at hp
        by_cases hn : near n = true
        · rw [if_pos hn] at hp
          cases hj : seqIndex? n ds.length with
          | none => simp only [hj, reduceCtorEq] at hp
          | some j =>
            simp only [hj] at hp
            cases hd' : ds[j]? with
            | none => simp only [hd', reduceCtorEq] at hp
            | some d' =>
              simp only [hd', Option.some.injEq, Prod.mk.injEq] at hp
              obtain ⟨rfl, rfl⟩ := hp
              obtain ⟨v, h2, h3⟩ := Mir.DqAll.at ha hd'
              obtain ⟨n1, n2⟩ := near_ok hn
              refine ⟨c, xs, n, j, v, rfl, rfl, hc', by omega, by omega, by rw [el]; exact hj, h2, ?_⟩
              exact k v _ G1 l1 (R1.setL hm hσ h1 (dqAll_erase j ha)) h3
        · rw [if_neg hn] at hp; cases hp
    | _ => exact k.elim
/-- x[e] = .. -/
theorem gL_put {us : List Nat} (he : PE X e (tE B f)) (hm : B.mu.getD i false = true := by rfl) (hN : X.N[i]? = some x := by rfl) (hv : Vis X.env.scope x := by first | exact Or.inl rfl | exact Or.inr (Or.inl rfl) | exact Or.inr (Or.inr rfl))
    (hd : (x == ("__debug__" : Str)) = false := by decide) (hcd : (x == ("__classdict__" : Str)) = false := by decide)
    (ha : ∀ v, assign (.Subscript (.Name x p) e pos) X.env v = (do
      let ov ← holding [v] (eval (.Name x p) X.env)
      let iv ← holding [v, ov] (eval e X.env)
      standAt pos
      holding [v, ov, iv] (setItem ov iv v)
      release [v, ov, iv] []) := by intro _; rfl) : PG X (.Subscript (.Name x p) e pos) (tGL B us (gPut i f)) := by
  refine ⟨fun pins s σ H v u Q I r ⟨G, env, d, R, hdq, gd⟩ => (pg_sub (pe_var hN hv hd hcd) he set_list ha).run pins s σ H v u Q I r ?_⟩
  obtain ⟨⟨ds0, h0⟩, gd⟩ := good_atS gd
  obtain ⟨c, xs0, hσ, hc0, _⟩ := R.slot hm h0
  refine ⟨.ref c, hσ, G, env, R, (good_bnd gd).imp fun kd e1 k y H1 G1 l1 R1 r1 => ?_⟩
  obtain ⟨ds, h1, k⟩ := good_withS k
  obtain ⟨ds', h2, k⟩ := good_opt (good_bnd k)
  obtain ⟨c', xs, hσ', hc', hA, _⟩ := R1.slot hm h1
  rw [hσ] at hσ'
  cases hσ'
  cases r1 with
  | int j =>
    simp only [dPut] at h2
    obtain ⟨m, hj, e'⟩ := Option.map_eq_some_iff.mp h2
    subst e'
    refine ⟨c, xs, j, m, rfl, rfl, hc', by rw [Mir.DqAll.len hA]; exact hj, ?_⟩
    exact k σ _ G1 (Off.refl us σ) l1 (R1.setL hm hσ h1 (DqAll.set (Dq.mono l1 _ _ hdq) m hA))
  | _ => simp only [dPut, reduceCtorEq] at h2
end
end Mir
/-! The mirror's stores of several names at once. -/
namespace Mir
open PySem PySem.Spec PyProof.Rows L2

/-- the new lists among them -/
def owns : List Bool → List V → List Addr
  | true :: fl, .ref b :: xs => b :: owns fl xs
  | _ :: fl, _ :: xs => owns fl xs
  | _, _ => []
/-- values, some of them new lists of one's own -/
inductive Mix (B : Bd) (σ : L2.St) (H G : Hp) (env : ME) : List Bool → List V → List D → Prop
  | nil : Mix B σ H G env [] [] []
  | val {x : V} {d : D} {fl : List Bool} {xs : List V} {ds : List D} : Dq B.K G x d → Mix B σ H G env fl xs ds → Mix B σ H G env (false :: fl) (x :: xs) (d :: ds)
  | own {b : Addr} {d : D} {fl : List Bool} {xs : List V} {ds : List D} : Own B H G b d → Fresh B σ env b → b ∉ owns fl xs → Mix B σ H G env fl xs ds → Mix B σ H G env (true :: fl) (.ref b :: xs) (d :: ds)
def tAO (B : Bd) (fl : List Bool) (f : M (List D)) : TA := fun σ H Q => ∃ G env, Rel B σ H G env ∧ Good B (f env) fun ds env' => ∀ xs H' G', Le G G' → Rel B σ H' G' env' → Mix B σ H' G' env' fl xs ds → Q xs H'
section
variable {X : Cx} {B : Bd}
theorem aO_nil : PA X [] (tAO B [] (ret [])) := PA.imp pa_nil fun _ H _ ⟨G, _, R, g⟩ => g [] H G (Le.refl G) R .nil
theorem Mix.new {σ : L2.St} {H G : Hp} {env : ME} {c : Addr} : ∀ {fl : List Bool} {xs : List V} {ds : List D}, Mix B σ H G env fl xs ds → c ∈ owns fl xs → Fresh B σ env c
  | _, _, _, .nil, h => nomatch h
  | _, x :: _, _, .val _ m, h => Mix.new m (by cases x <;> exact h)
  | _, _, _, .own _ f _ m, h => by
    rcases List.mem_cons.mp h with e | e
    · rw [e]; exact f
    · exact Mix.new m e
theorem aO_val {e : Expr} {es : List Expr} {fl : List Bool} {f : M D} {g : M (List D)} (he : PE X e (tE B f)) (hr : PA X es (tAO B fl g)) (hs : starEach (e :: es) X.env = (false, eval e X.env) :: starEach es X.env := by rfl) : PA X (e :: es) (tAO B (false :: fl) (mCons f g)) :=
  PA.imp (pa_cons he hr hs) fun σ H Q ⟨G, env, R, gd⟩ => ⟨G, env, R, (good_bnd gd).imp fun d e1 k x H1 G1 l1 R1 r1 => ⟨G1, e1, R1, (good_bnd k).imp fun ds e2 k2 xs H2 G2 l2 R2 r2 =>
    k2 (x :: xs) H2 G2 (l1.trans l2) R2 (.val (Dq.mono l2 _ _ r1) r2)⟩⟩
theorem Mix.back {σ : L2.St} {H1 G1 H G : Hp} {e1 env : ME} (R1 : Rel B σ H1 G1 e1) : ∀ {fl : List Bool} {xs : List V} {ds : List D}, Mix (B.re H1 G1 (ioAll B.mu σ e1)) σ H G env fl xs ds → Mix B σ H G env fl xs ds
  | _, _, _, .nil => .nil
  | _, _, _, .val r m => .val r (Mix.back R1 m)
  | _, _, _, .own w f n m => .own ⟨w.ex, w.out⟩ ⟨R1.gnd.keep _ f.h0, f.no⟩ n (Mix.back R1 m)
/-- no exception -/
def fineM {α : Type} (f : M α) : M α := fun e => match f e with
  | .ok a e' => .ok a e'
  | _ => .bad
theorem good_fine {α : Type} {f : M α} {e : ME} {k : α → ME → Prop} (g : Good B (fineM f e) k) : FineD (f e) k := by
  unfold fineM at g
  cases h : f e with
  | ok a e' => rw [h] at g; exact g
  | exc _ _ => rw [h] at g; exact g.elim
  | bad => rw [h] at g; exact g.elim
def mConsO (f : M D) (g : M (List D)) : M (List D) := bnd f fun d => bnd (fineM g) fun ds => ret (d :: ds)
theorem aO_own {e : Expr} {es : List Expr} {fl : List Bool} {f : M D} {g : M (List D)} (he : PE X e (tO B f)) (hr : ∀ (H0 G0 : Hp) (io : List (Nat × Addr)), PA X es (tAO (B.re H0 G0 io) fl g)) (hs : starEach (e :: es) X.env = (false, eval e X.env) :: starEach es X.env := by rfl) : PA X (e :: es) (tAO B (true :: fl) (mConsO f g)) := by
  have hr' : PA X es (fun σ H Q => ∃ H0 G0 io, tAO (B.re H0 G0 io) fl g σ H Q) := ⟨fun pos pins s σ H Q I ⟨H0, G0, io, q⟩ => (hr H0 G0 io).run pos pins s σ H Q I q⟩
  refine PA.imp (pa_cons he hr' hs) fun σ H Q ⟨G, env, R, gd⟩ => ⟨G, env, R, (good_bnd gd).imp fun d e1 k b H1 G1 l1 R1 w fr => ?_⟩
  have kf := good_fine (good_bnd k)
  refine ⟨H1, G1, ioAll B.mu σ e1, G1, e1, R1.re, kf.good.imp fun ds e2 k2 xs H2 G2 l2 R2 r2 => ?_⟩
  obtain ⟨zs, es', ed, hb, ha⟩ := w.ex
  obtain ⟨s1, s2⟩ := R1.stays R2 hb w.out fr.no
  have no : ∀ (i : Nat) (d : D), e2[i]? = some (some d) → B.mu.getD i false = true → σ[i]? ≠ some (some (.ref b)) := fun i d h hm z => by
    obtain ⟨c, h1, _, h3⟩ := R2.mt i d h hm
    rw [z] at h1
    cases h1
    rcases h3 with h3 | ⟨h3, _⟩
    · obtain ⟨q1, ⟨d', q2⟩, q3⟩ := of_ioAll h3
      exact fr.no i d' q2 q1 q3
    · have h3 : H1 b = none := h3
      rw [hb] at h3; cases h3
  refine k2 (.ref b :: xs) H2 G2 (l1.trans l2) (R1.un R2) (.own ⟨⟨zs, es', ed, s1, DqAll.mono l2 _ _ ha⟩, s2⟩ ⟨fr.h0, no⟩ (fun hmem => ?_) (Mix.back R1 r2))
  have h0 : H1 b = none := (Mix.new r2 hmem).h0
  rw [hb] at h0; cases h0
/-- slots get values -/
theorem Rel.putM {σ : L2.St} {H G : Hp} {env : ME} {x y : V} {d1 d2 : D} {f1 f2 : Bool} {i j : Nat} (R : Rel B σ H G env) (m : Mix B σ H G env [f1, f2] [x, y] [d1, d2]) (hij : i ≠ j) (h1 : B.mu.getD i false = f1) (h2 : B.mu.getD j false = f2) (hi : i < σ.length) (hj : j < σ.length)
    (n1 : ∀ p ∈ B.io, p.1 ≠ i) (n2 : ∀ p ∈ B.io, p.1 ≠ j) : Rel B ((σ.set i (some x)).set j (some y)) H G ((env.set i (some d1)).set j (some d2)) := by
  have step : ∀ {σ : L2.St} {env : ME} {x : V} {d : D} {f : Bool} {i : Nat}, Rel B σ H G env → B.mu.getD i false = f → i < σ.length → (∀ p ∈ B.io, p.1 ≠ i) → Mix B σ H G env [f] [x] [d] → Rel B (σ.set i (some x)) H G (env.set i (some d)) := fun {σ env x d f i} R hm hi hn m => by
    cases m with
    | val r _ => exact R.set hm r hi
    | own w fr _ _ => exact R.own hm w fr hi hn
  have key : ∃ m2 : Mix B (σ.set i (some x)) H G (env.set i (some d1)) [f2] [y] [d2], Mix B σ H G env [f1] [x] [d1] := by
    have fresh : ∀ {b : Addr}, Fresh B σ env b → (f1 = true → x ≠ .ref b) → Fresh B (σ.set i (some x)) (env.set i (some d1)) b := fun {b} fr hne => ⟨fr.h0, fun k d h hm z => by
      by_cases hk : k = i
      · subst hk
        rw [List.getElem?_set_self hi] at z
        rw [h1] at hm
        exact hne hm (Option.some.inj (Option.some.inj z))
      · rw [List.getElem?_set_ne (Ne.symm hk)] at h z
        exact fr.no k d h hm z⟩
    cases m with
    | val r m =>
      refine ⟨?_, .val r .nil⟩
      cases m with
      | val r2 m2 => exact .val r2 .nil
      | own w fr n m2 => exact .own w (fresh fr fun z => Bool.noConfusion z) (by intro h; cases h) .nil
    | own w fr n m =>
      refine ⟨?_, .own w fr (by intro h; cases h) .nil⟩
      cases m with
      | val r2 m2 => exact .val r2 .nil
      | own w2 fr2 n2 m2 => exact .own w2 (fresh fr2 fun _ z => n (by cases z; exact List.mem_cons_self)) (by intro h; cases h) .nil
  obtain ⟨m2, m1⟩ := key
  exact step (step R h1 hi n1 m1) h2 (by rw [List.length_set]; exact hj) n2 m2
def put2 (i j : Nat) (ds : List D) : M Unit := fun e => match ds with
  | [a, b] => if decide (i < e.length) = true then (if decide (j < e.length) = true then .ok () ((e.set i (some a)).set j (some b)) else .bad) else .bad
  | _ => .bad
theorem good_put2 {i j : Nat} {ds : List D} {env : ME} {k : Unit → ME → Prop} (g : Good B (put2 i j ds env) k) : ∃ a b, ds = [a, b] ∧ i < env.length ∧ j < env.length ∧ k () ((env.set i (some a)).set j (some b)) := by
  unfold put2 at g
  split at g
  · rename_i a b
    by_cases z1 : decide (i < env.length) = true
    · rw [if_pos z1] at g
      by_cases z2 : decide (j < env.length) = true
      · rw [if_pos z2] at g
        exact ⟨a, b, rfl, of_decide_eq_true z1, of_decide_eq_true z2, g⟩
      · rw [if_neg z2] at g; exact g.elim
    · rw [if_neg z1] at g; exact g.elim
  · exact g.elim
theorem Mix.len {σ : L2.St} {H G : Hp} {env : ME} : ∀ {fl : List Bool} {xs : List V} {ds : List D}, Mix B σ H G env fl xs ds → xs.length = ds.length
  | _, _, _, .nil => rfl
  | _, _, _, .val _ m => by rw [List.length_cons, List.length_cons, Mix.len m]
  | _, _, _, .own _ _ _ m => by rw [List.length_cons, List.length_cons, Mix.len m]
def mPar (i j : Nat) (f : M (List D)) : M Fl := bnd f fun ds => bnd (put2 i j ds) fun _ => ret .nx
/-- a, b = e1, e2, the stores swapped -/
theorem s_par {own : Bool} {i j : Nat} {x y : Str} {a b : Expr} {f1 f2 : Bool} {f : M (List D)} {px py pt pos : Pos} {kt k2 : Nat} {pt2 : Pos} (hc : X.calm = true) (hN : X.N.Nodup) (ha : PA X [a, b] (tAO B [f1, f2] f))
    (hw : swappedStores [.Tuple [.Name x px, .Name y py] kt pt] (.Tuple [a, b] k2 pt2) X.env = pure (some [x, y]))
    (h1 : B.mu.getD i false = f1 := by rfl) (h2 : B.mu.getD j false = f2 := by rfl) (n1 : ∀ p ∈ B.io, p.1 ≠ i := by intro p hp; first | exact absurd hp List.not_mem_nil | (cases hp with | head => (intro z; cases z) | tail _ h => exact absurd h List.not_mem_nil)) (n2 : ∀ p ∈ B.io, p.1 ≠ j := by intro p hp; first | exact absurd hp List.not_mem_nil | (cases hp with | head => (intro z; cases z) | tail _ h => exact absurd h List.not_mem_nil))
    (hi : X.N[i]? = some x := by rfl) (hj : X.N[j]? = some y := by rfl) (hij : i ≠ j := by decide) (hx : X.env.scope.names.lookup x = some .local := by rfl) (hy : X.env.scope.names.lookup y = some .local := by rfl)
    (hs : swapsWithSole [.Tuple [.Name x px, .Name y py] kt pt] (.Tuple [a, b] k2 pt2) pos.line X.env = pure false := by rfl) :
    PS X (.Assign [.Tuple [.Name x px, .Name y py] kt pt] (.Tuple [a, b] k2 pt2) pos) (tS B own (mPar i j f)) :=
  PS.imp (ps_par hc hN hi hj hij hx hy ha hw hs) fun De σ H ⟨G, env, R, gd⟩ => ⟨G, env, R, (good_bnd gd).imp fun ds e1 k xs H1 G1 l1 R1 r1 => by
    obtain ⟨a, b, rfl, z1, z2, k⟩ := good_put2 (good_bnd k)
    have el := r1.len
    match xs, el, r1 with
    | [u, v], _, r1 =>
      refine ⟨u, v, rfl, k _ H1 G1 l1 (R1.putM r1 hij h1 h2 ?_ ?_ n1 n2)⟩
      · rw [← R1.len]; exact z1
      · rw [← R1.len]; exact z2⟩
end
end Mir
/-! Walks that hand out new tuples (enumerate of a tuple, zip of a tuple and a list), out of the library's GoesN. -/
namespace TGo
open PySem PySem.Spec PyProof.Rows L2

/-- one step of such a walk: what is handed out is a new tuple that is tracked from now on -/
def StepN (P : Program) (w : World) (tg : Expr) (J : It) (fp : List Addr) (it : Addr) (tn : Nat → Heap → Prop) (X : Cx) (H : Hp) (s : Shared) (i : Nat) : Prop :=
  ∃ (n : Nat) (fq wr : List Addr) (Y : Nat → Heap → Value → Heap → Prop) (St : Nat → Heap → Prop), GoesN P w X.A tg it fq wr n Y St ∧ (∀ b ∈ wr, b ∈ fp) ∧ i < n ∧ St i s.heap ∧
    ∀ v g, Y i s.heap v g → St (i + 1) g → tn (i + 1) g ∧ ∃ (T : Addr) (ob : HO), v = .ref T ∧ s.heap.objs.size ≤ T ∧ ObjOk P w (upd H T ob) g T ob ∧ J.yld i H (.ref T) (upd H T ob)
def EndN (P : Program) (w : World) (tg : Expr) (fp : List Addr) (it : Addr) (X : Cx) (s : Shared) : Prop :=
  ∃ (n : Nat) (fq wr : List Addr) (Y : Nat → Heap → Value → Heap → Prop) (St : Nat → Heap → Prop), GoesN P w X.A tg it fq wr n Y St ∧ (∀ b ∈ wr, b ∈ fp) ∧ St n s.heap
theorem turnN {P : Program} {w : World} {K : PySem.W.Frag} {tg : Expr} {J : It} {fp : List Addr} {it : Addr} {tn : Nat → Heap → Prop} (mem : it ∈ fp)
    (obj : ∀ i h, tn i h → ∀ b ∈ fp, ∃ o, h.get? b = some o ∧ ∀ v, o.data ≠ .cell v) (keep : ∀ i h h', tn i h → (∀ b ∈ fp, ∀ o, h.get? b = some o → h'.get? b = some o) → tn i h')
    (self : ∀ (A : Around) (i : Nat) (s : Shared) (Q : Value → Shared → Prop) (E : Value → Shared → Prop), tn i s.heap → Q (.ref it) s → wpAny (model P w) A (pyIter (.ref it)) Q E s)
    (go : ∀ (X : Cx) (pins : List (Addr × Obj)) (σ : L2.St) (H : Hp) (s : Shared) (i : Nat), X.prog = P → X.w = w → X.K = K → X.calm = true → Inv X pins σ H s → tn i s.heap → J.go i H → StepN P w tg J fp it tn X H s i)
    (stop : ∀ (X : Cx) (pins : List (Addr × Obj)) (σ : L2.St) (H : Hp) (s : Shared) (i : Nat), X.prog = P → X.w = w → X.K = K → X.calm = true → Inv X pins σ H s → tn i s.heap → J.stop i H → EndN P w tg fp it X s) :
    Turn P w K tg J fp it tn where
  mem := mem
  obj := obj
  keep := keep
  self := self
  item := fun X e1 e2 e3 hc i pins s σ H E I hf st hg => by
    obtain ⟨n, fq, wr, Y, St, W, hsub, hi, hst, hy⟩ := go X pins σ H s i e1 e2 e3 hc I st hg
    subst e1 e2
    refine W.goes i s (fun v s2 => ∃ x H', Inv X pins σ H' s2 ∧ RelV x v ∧ J.yld i H x H' ∧ tn (i + 1) s2.heap ∧ ∀ b ∈ fp, H' b = none) E hi hst fun v g tk hY hS hk _ => ?_
    obtain ⟨ht, T, ob, rfl, hT, new, yl⟩ := hy v g hY hS
    have J1 : Inv X pins σ (upd H T ob) { s with heap := g, toks := tk } := I.turnedNew (t' := tk) (ch := fp) (fun b o hb q => hk b o (fun z => hb (hsub b z)) q) hf hT new
    refine ⟨.ref T, _, J1, rfl, yl, ht, fun b hb => ?_⟩
    obtain ⟨o, ho, _⟩ := obj i s.heap st b hb
    rw [upd_ne (Nat.ne_of_lt (Nat.lt_of_lt_of_le (Heap.lt_size ho) hT))]
    exact (hf b hb).1
  done := fun X e1 e2 e3 hc i pins s σ H E I hf st hg => by
    obtain ⟨n, fq, wr, Y, St, W, hsub, hst⟩ := stop X pins σ H s i e1 e2 e3 hc I st hg
    subst e1 e2
    exact W.stops s _ E hst fun g tk hk _ => I.turnedL (t' := tk) (ch := fp) (fun b o hb q => hk b o (fun z => hb (hsub b z)) q) hf

/-! ### enumerate of a tuple -/
def IteT (K : PySem.W.Frag) (a : Addr) (n : Nat) : It :=
  ⟨fun i H => i < n ∧ ∃ (xs : List V), SqT K H a xs ∧ xs.length = n, fun i H v H' => ∃ T x, v = .ref T ∧ H T = none ∧ H' = upd H T (.tup [.int (i : Nat), x]) ∧ ∀ xs, SqT K H a xs → xs[i]? = some x, fun i H => n ≤ i ∧ ∃ (xs : List V), SqT K H a xs ∧ xs.length = n⟩
theorem turn_enumT {P : Program} {w : World} {K : PySem.W.Frag} {elts : List Expr} {kk : Nat} {tpos : Pos} (a e it : Addr) (n : Nat) (hae : a ≠ e) (hai : a ≠ it) (hei : e ≠ it) :
    Turn P w K (.Tuple elts kk tpos) (IteT K a n) [e, it] e (fun i h => i ≤ n ∧ (∃ old, IsEnum h e it ((i : Nat) : Int) old) ∧ h.IsTupleIter it a i) := by
  have two : ∀ b, b ∈ [e, it] → b = e ∨ b = it := fun b hb => by simpa using hb
  refine turnN (by simp) (fun i h st b hb => ?_) (fun i h h' st k => ?_) (fun A i s Q E st q => ?_) (fun X pins σ H s i e1 e2 e3 hc I st hg => ?_) (fun X pins σ H s i e1 e2 e3 hc I st hg => ?_)
  · obtain ⟨_, ⟨old, he⟩, o, ho, _, hd⟩ := st
    rcases two b hb with z | z
    · rw [z]; exact ⟨_, he, fun v q => nomatch q⟩
    · rw [z]; exact ⟨o, ho, fun v q => by rw [hd] at q; cases q⟩
  · obtain ⟨hn, ⟨old, he⟩, hi⟩ := st
    exact ⟨hn, ⟨old, k e (by simp) _ he⟩, hi.at fun o q => k it (by simp) o q⟩
  · obtain ⟨_, ⟨_, he⟩, _⟩ := st
    exact wpAny_pyIter_enum he q
  · obtain ⟨hn, ⟨old, he⟩, hi⟩ := st
    obtain ⟨hin, xs, hx, hl⟩ := hg
    rw [← e3] at hx
    obtain ⟨its, rv, p, hz⟩ := I.tuple hx
    have p : s.heap.IsTuple a its.toArray := p
    have hls := rv.length
    have D := Draws.tuple (prog := P) (w := w) (A := X.A.in1) (I.ok.hd hc) it a hai its.toArray
    have W := GoesN.enumFrom (prog := P) (w := w) (A := X.A) (elts := elts) (x1 := kk) (pos := tpos) 0 D e hei (by simp [hei]; exact fun z => hae z.symm) (by simp)
    refine ⟨_, _, _, _, _, W, fun b hb => by simpa using hb, by rw [List.size_toArray]; omega, ⟨⟨old, by simpa using he⟩, hi, p⟩, fun v g hy hs => ?_⟩
    obtain ⟨T, t, x, rfl, hT, hPx, hTt⟩ := hy
    obtain ⟨⟨old', he'⟩, hi', p'⟩ := hs
    obtain ⟨u, hu, ry⟩ := rv.get (List.getElem?_eq_getElem (show i < xs.length by omega))
    have hy := List.getElem?_eq_getElem (show i < xs.length by omega)
    have hxu : x = u := by
      have h1 : its[i]? = some x := by simpa using hPx
      rw [hu] at h1
      exact (Option.some.inj h1).symm
    subst hxu
    generalize xs[i] = y at hy ry
    refine ⟨⟨by omega, ⟨old', by simpa using he'⟩, hi'⟩, T, .tup [.int (i : Nat), y], rfl, hT, ⟨by show 2 ≤ sizeLine; decide, [.int (0 + (i : Int)) t, x], ?_, hTt⟩, T, y, rfl, I.hok.fresh hT, rfl, fun ys hys => ?_⟩
    · rw [Int.zero_add]
      exact .cons ⟨_, rfl⟩ (.cons ry .nil)
    · rw [← e3] at hys
      rw [I.tuple_inj hys hx]
      exact hy
  · obtain ⟨hn, ⟨old, he⟩, hi⟩ := st
    obtain ⟨hin, xs, hx, hl⟩ := hg
    rw [← e3] at hx
    obtain ⟨its, rv, p, hz⟩ := I.tuple hx
    have p : s.heap.IsTuple a its.toArray := p
    have hls := rv.length
    have D := Draws.tuple (prog := P) (w := w) (A := X.A.in1) (I.ok.hd hc) it a hai its.toArray
    have W := GoesN.enumFrom (prog := P) (w := w) (A := X.A) (elts := elts) (x1 := kk) (pos := tpos) 0 D e hei (by simp [hei]; exact fun z => hae z.symm) (by simp)
    have hii : i = its.toArray.size := by rw [List.size_toArray]; omega
    subst hii
    exact ⟨_, _, _, _, _, W, fun b hb => by simpa using hb, ⟨old, by simpa using he⟩, hi, p⟩
/-- enumerate(v) -/
theorem new_enum {v : Value} {ob : Obj} {F : Heap → Prop} (B : Begins v ob F) : Meets (Builtin.«enumerate.__new__» ⟨[.type "enumerate", v], []⟩) (fun _ R s => F s.heap ∧
      R (.ok (.ret (.ref (s.heap.push ob).objs.size))) { s with heap := (s.heap.push ob).push { cls := .type "enumerate", data := .fields #[.none, .bool false, .ref s.heap.objs.size, rawInt 0, .none, .none] } }) :=
  .of_wp fun P w M R z hh => by
    obtain ⟨hp, gs, dr, tk, sy⟩ := z
    obtain ⟨hF, fin⟩ := hh
    have isE := sub_enumerate
    have goes : ∀ {M' : Around} {Er : Value → Shared → Prop} {Qr : Value → Shared → Prop}, Qr (.ref hp.objs.size) ⟨hp.push ob, gs, dr, tk, sy⟩ → wpAny (model P w) M' (pyIter v) Qr Er ⟨hp, gs, dr, tk, sy⟩ :=
      fun q => B.iter P w _ _ ⟨hp, gs, dr, tk, sy⟩ _ hF q
    wp_walk using goes
    refine wpAny_stack_any fun st => wpAny_pure ?_
    split
    · rename_i k _ _ _ _ _
      cases (k == Value.type "enumerate") <;> (wp_walk using goes; exact ⟨_, rfl, fin⟩)
    · wp_walk using goes
      exact ⟨_, rfl, fin⟩
theorem call_enum {P : Program} {w : World} {M : Around} {Er : Value → Shared → Prop} {s : Shared} {v : Value} {ob : Obj} {W : Heap → Prop} {Q : Value → Shared → Prop} (B : Begins v ob W) (hF : W s.heap)
    (fin : ∀ g, IsEnum g (s.heap.objs.size + 1) s.heap.objs.size 0 .none → g.get? s.heap.objs.size = some ob → (∀ b o, s.heap.get? b = some o → g.get? b = some o) → Q (.ref (s.heap.objs.size + 1)) { s with heap := g }) :
    wpAny (model P w) M (call (.type "enumerate") [v]) Q Er s := by
  refine callType_new F.called_enumerate (by decide) (F.typeCall_enumerate_1 _) (F.newCall_enumerate_1 _) (fun x => F.args_object_init_2 x _) F.entry_enumerate_new (new_enum B) ⟨hF, ?_⟩
  have sz : (s.heap.push ob).objs.size = s.heap.objs.size + 1 := Heap.size_push ..
  have e0 := Heap.get?_push_size (s.heap.push ob) (o := { cls := .type "enumerate", data := .fields #[.none, .bool false, .ref s.heap.objs.size, rawInt 0, .none, .none] }) rfl
  rw [sz] at e0
  show _ ∧ _
  rw [sz]
  exact ⟨⟨_, e0, rfl⟩, fin _ e0 (Heap.get?_push_of_some _ (Heap.get?_push_size _ B.free)) fun b o q => Heap.get?_push_of_some _ (Heap.get?_push_of_some _ q)⟩
def iEnumA (K : PySem.W.Frag) (ta : TA) : TI := fun σ H R => ta σ H fun vs H1 => ∃ a xs, vs = [.ref a] ∧ ((SqL K H1 a xs ∧ R (Ite K a) H1) ∨ (SqT K H1 a xs ∧ R (IteT K a xs.length) H1))
theorem pi_enumA {X : Cx} {e : Expr} {ta : TA} {p pos tpos : Pos} {elts : List Expr} {kk : Nat} (hg : Gl X "enumerate") (hm : X.mg "enumerate" = none) (ha : PA X [e] ta) (hs : starEach [e] X.env = [(false, eval e X.env)] := by rfl) :
    PI X (.Tuple elts kk tpos) (.Call (.Name "enumerate" p) [e] [] pos) (iEnumA X.K ta) := by
  refine ⟨fun pins s σ H R I h => Call_ (ld_blt I hg hm boot_enumerate (PyProof.Rows.callWith_type1 (thn (ha.run pos pins s σ H _ I h) fun us s1 ⟨vs, H1, I1, r1, q1⟩ => ?_) hs rfl))⟩
  obtain ⟨a, xs, ev, q⟩ := q1
  subst ev
  obtain ⟨u, eu, ru⟩ : ∃ u, us = [u] ∧ RelV (.ref a) u := by
    cases r1 with
    | cons r rr =>
      cases rr
      exact ⟨_, rfl, r⟩
  subst eu
  obtain rfl : u = Value.ref a := ru
  have big : ∀ b, b ∈ [s1.heap.objs.size + 1, s1.heap.objs.size] → FpOk X pins H1 b := fun b hb => by
    have hle : s1.heap.objs.size ≤ b := by
      rcases (show b = s1.heap.objs.size + 1 ∨ b = s1.heap.objs.size by simpa using hb) with z | z
      · rw [z]; exact Nat.le_succ _
      · rw [z]; exact Nat.le_refl _
    exact I1.fpOk hle (I1.hok.fresh hle)
  rcases q with ⟨hx, q⟩ | ⟨hx, q⟩
  · obtain ⟨its, rv, pl, hz⟩ := I1.list hx
    refine call_enum (begins_list a its.toArray) pl.isList fun g he hi hk => wpAny_pyIter_enum he ?_
    exact ⟨s1.heap.objs.size + 1, [s1.heap.objs.size + 1, s1.heap.objs.size], _, _, H1, rfl, I1.kept (t' := s1.toks) hk, turn_enum a (s1.heap.objs.size + 1) s1.heap.objs.size, ⟨⟨.none, he⟩, ⟨_, hi, rfl, rfl⟩, Nat.succ_ne_self _⟩, big, q⟩
  · obtain ⟨its, rv, pl, hz⟩ := I1.tuple hx
    have pl : s1.heap.IsTuple a its.toArray := pl
    obtain ⟨o, ho, _⟩ := id pl
    have lt := Heap.lt_size ho
    refine call_enum (begins_tuple a its.toArray) pl fun g he hi hk => wpAny_pyIter_enum he ?_
    exact ⟨s1.heap.objs.size + 1, [s1.heap.objs.size + 1, s1.heap.objs.size], _, _, H1, rfl, I1.kept (t' := s1.toks) hk, turn_enumT a (s1.heap.objs.size + 1) s1.heap.objs.size xs.length (Nat.ne_of_lt (Nat.lt_succ_of_lt lt)) (Nat.ne_of_lt lt) (Nat.succ_ne_self _), ⟨Nat.zero_le _, ⟨.none, he⟩, ⟨_, hi, rfl, rfl⟩⟩, big, q⟩
end TGo
/-! zip of two things, each a list or a tuple. -/
namespace TGo
open PySem PySem.Spec PyProof.Rows L2
/-- a list, or a tuple (k) -/
def SqK (k : Bool) (K : PySem.W.Frag) (H : Hp) (a : Addr) (xs : List V) : Prop := if k = true then SqT K H a xs else SqL K H a xs
def SrcK (k : Bool) (h : Heap) (a : Addr) (its : Array Value) : Prop := if k = true then h.IsTuple a its else h.IsList a its
def OnK (k : Bool) (h : Heap) (it a : Addr) (i : Nat) : Prop := if k = true then h.IsTupleIter it a i else h.IsListIter it a i
def itO (k : Bool) (a : Addr) : Obj := if k = true then { cls := .type "tuple_iterator", data := .fields #[.ref a, .int 0 0] } else { cls := .type "list_iterator", data := .fields #[.ref a, .int 0 0] }
theorem srcK {X : Cx} {pins : List (Addr × Obj)} {σ : L2.St} {H : Hp} {s : Shared} {k : Bool} {a : Addr} {xs : List V} (I : Inv X pins σ H s) (h : SqK k X.K H a xs) : ∃ its : List Value, Vals xs its ∧ SrcK k s.heap a its.toArray := by
  cases k with
  | true =>
    obtain ⟨its, r, p, _⟩ := I.tuple h
    exact ⟨its, r, p⟩
  | false =>
    obtain ⟨its, r, p, _⟩ := I.list h
    exact ⟨its, r, p.isList⟩
theorem injK {X : Cx} {pins : List (Addr × Obj)} {σ : L2.St} {H : Hp} {s : Shared} {k : Bool} {a : Addr} {xs ys : List V} (I : Inv X pins σ H s) (h : SqK k X.K H a xs) (h' : SqK k X.K H a ys) : xs = ys := by
  cases k with
  | true => exact I.tuple_inj h h'
  | false => exact I.list_inj h h'
theorem beginsK (k : Bool) (a : Addr) (its : Array Value) : Begins (.ref a) (itO k a) fun h => SrcK k h a its := by
  cases k with
  | true => exact begins_tuple a its
  | false => exact begins_list a its
theorem drawsK {P : Program} {w : World} {A : Around} (hh : A.handled = none) (k : Bool) (it a : Addr) (hne : a ≠ it) (its : Array Value) : Draws P w A it [it, a] its.size (fun i v => its[i]? = some v) (fun i h => OnK k h it a i ∧ SrcK k h a its) := by
  cases k with
  | true => exact Draws.tuple hh it a hne its
  | false => exact Draws.list hh it a hne its
theorem ltK {k : Bool} {h : Heap} {a : Addr} {its : Array Value} (p : SrcK k h a its) : a < h.objs.size := by
  cases k with
  | true => obtain ⟨o, ho, _⟩ := p; exact Heap.lt_size ho
  | false => obtain ⟨o, ho, _⟩ := p; exact Heap.lt_size ho
theorem onK {k : Bool} {h : Heap} {it a : Addr} (e : h.get? it = some (itO k a)) : OnK k h it a 0 := by
  cases k with
  | true => exact ⟨_, e, rfl, rfl⟩
  | false => exact ⟨_, e, rfl, rfl⟩
theorem onK_obj {k : Bool} {h : Heap} {it a : Addr} {i : Nat} (p : OnK k h it a i) : ∃ o, h.get? it = some o ∧ ∀ v, o.data ≠ .cell v := by
  cases k with
  | true => obtain ⟨o, ho, _, hd⟩ := p; exact ⟨o, ho, fun v q => by rw [hd] at q; cases q⟩
  | false => obtain ⟨o, ho, _, hd⟩ := p; exact ⟨o, ho, fun v q => by rw [hd] at q; cases q⟩
theorem onK_keep {k : Bool} {h h' : Heap} {it a : Addr} {i : Nat} (p : OnK k h it a i) (q : ∀ o, h.get? it = some o → h'.get? it = some o) : OnK k h' it a i := by
  cases k with
  | true => exact p.at q
  | false => exact p.at q
def ItzK (k l : Bool) (K : PySem.W.Frag) (a b : Addr) (n : Nat) : It :=
  ⟨fun i H => i < n ∧ ∃ xs ys : List V, SqK k K H a xs ∧ SqK l K H b ys ∧ min xs.length ys.length = n,
    fun i H v H' => ∃ T x y, v = .ref T ∧ H T = none ∧ H' = upd H T (.tup [x, y]) ∧ (∀ xs, SqK k K H a xs → xs[i]? = some x) ∧ ∀ ys, SqK l K H b ys → ys[i]? = some y,
    fun i H => n ≤ i ∧ ∃ xs ys : List V, SqK k K H a xs ∧ SqK l K H b ys ∧ min xs.length ys.length = n⟩
theorem turn_zipK {P : Program} {w : World} {K : PySem.W.Frag} {elts : List Expr} {kk : Nat} {tpos : Pos} (k l : Bool) (a b z TI TO i1 i2 : Addr) (n : Nat) (S : ZipSep2 z TI TO i1 i2 [i1, a] [i2, b]) (h1 : a ≠ i1) (h2 : b ≠ i2) :
    Turn P w K (.Tuple elts kk tpos) (ItzK k l K a b n) [z, TI, TO, i1, i2] z (fun i h => i ≤ n ∧ IsZip h z TI TO .none ∧ IsTupOf2 h TI (.ref i1) (.ref i2) ∧ (∃ x y, IsTupOf2 h TO x y) ∧ OnK k h i1 a i ∧ OnK l h i2 b i) := by
  have five : ∀ c, c ∈ [z, TI, TO, i1, i2] → c = z ∨ c = TI ∨ c = TO ∨ c = i1 ∨ c = i2 := fun c hc => by simpa using hc
  have W : ∀ (A : Around) (ss : A.handled = none) (xa ya : Array Value), GoesN P w A (.Tuple elts kk tpos) z _ _ _ _ _ := fun A hh xa ya =>
    GoesN.zip2 (prog := P) (w := w) (A := A) (elts := elts) (x1 := kk) (pos := tpos) S (drawsK (A := A.in1) hh k i1 a h1 xa) (drawsK (A := A.in1) hh l i2 b h2 ya)
  have sub : ∀ c ∈ [z, TO, i1, i2], c ∈ [z, TI, TO, i1, i2] := fun c hc => by
    simp only [List.mem_cons, List.not_mem_nil, or_false] at hc ⊢
    rcases hc with q | q | q | q
    · exact .inl q
    · exact .inr (.inr (.inl q))
    · exact .inr (.inr (.inr (.inl q)))
    · exact .inr (.inr (.inr (.inr q)))
  refine turnN (by simp) (fun i h st c hc => ?_) (fun i h h' st q => ?_) (fun A i s Q E st q => wpAny_pyIter_zip st.2.1 q) (fun X pins σ H s i e1 e2 e3 hc I st hg => ?_) (fun X pins σ H s i e1 e2 e3 hc I st hg => ?_)
  · obtain ⟨_, hz, hTI, ⟨x, y, hTO⟩, o1, o2⟩ := st
    rcases five c hc with q | q | q | q | q
    · rw [q]; exact ⟨_, hz, fun v q => nomatch q⟩
    · rw [q]; exact ⟨_, hTI, fun v q => nomatch q⟩
    · rw [q]; exact ⟨_, hTO, fun v q => nomatch q⟩
    · rw [q]; exact onK_obj o1
    · rw [q]; exact onK_obj o2
  · obtain ⟨hn, hz, hTI, ⟨x, y, hTO⟩, o1, o2⟩ := st
    exact ⟨hn, q z (by simp) _ hz, q TI (by simp) _ hTI, ⟨x, y, q TO (by simp) _ hTO⟩, onK_keep o1 (q i1 (by simp)), onK_keep o2 (q i2 (by simp))⟩
  · obtain ⟨hn, hz, hTI, hTO, o1, o2⟩ := st
    obtain ⟨hin, xs, ys, hx, hy, hl⟩ := hg
    rw [← e3] at hx hy
    obtain ⟨its, rv, p1⟩ := srcK I hx
    obtain ⟨jts, rw', p2⟩ := srcK I hy
    have l1 := rv.length
    have l2 := rw'.length
    refine ⟨_, _, _, _, _, W X.A (I.ok.hd hc) its.toArray jts.toArray, sub, by simp only [List.size_toArray]; omega, ⟨hz, hTI, hTO, ⟨o1, p1⟩, ⟨o2, p2⟩⟩, fun v g hyl hs => ?_⟩
    obtain ⟨T, x, y, rfl, hT, hPx, hPy, hTt⟩ := hyl
    obtain ⟨hz', hTI', hTO', ⟨o1', _⟩, ⟨o2', _⟩⟩ := hs
    have gx := List.getElem?_eq_getElem (show i < xs.length by omega)
    have gy := List.getElem?_eq_getElem (show i < ys.length by omega)
    obtain ⟨u, hu, ru⟩ := rv.get gx
    obtain ⟨u', hu', ru'⟩ := rw'.get gy
    have ex : x = u := by
      have q : its[i]? = some x := by simpa using hPx
      rw [hu] at q
      exact (Option.some.inj q).symm
    have ey : y = u' := by
      have q : jts[i]? = some y := by simpa using hPy
      rw [hu'] at q
      exact (Option.some.inj q).symm
    subst ex ey
    refine ⟨⟨by omega, hz', hTI', hTO', o1', o2'⟩, T, .tup [xs[i], ys[i]], rfl, hT, ⟨by show 2 ≤ sizeLine; decide, [x, y], .cons ru (.cons ru' .nil), hTt⟩, T, _, _, rfl, I.hok.fresh hT, rfl, fun zs hzs => ?_, fun zs hzs => ?_⟩
    · rw [← e3] at hzs
      rw [injK I hzs hx]
      exact gx
    · rw [← e3] at hzs
      rw [injK I hzs hy]
      exact gy
  · obtain ⟨hn, hz, hTI, hTO, o1, o2⟩ := st
    obtain ⟨hin, xs, ys, hx, hy, hl⟩ := hg
    rw [← e3] at hx hy
    obtain ⟨its, rv, p1⟩ := srcK I hx
    obtain ⟨jts, rw', p2⟩ := srcK I hy
    have l1 := rv.length
    have l2 := rw'.length
    have hii : i = min its.toArray.size jts.toArray.size := by simp only [List.size_toArray]; omega
    subst hii
    exact ⟨_, _, _, _, _, W X.A (I.ok.hd hc) its.toArray jts.toArray, sub, hz, hTI, hTO, ⟨o1, p1⟩, ⟨o2, p2⟩⟩
def iZipK (K : PySem.W.Frag) (ta : TA) : TI := fun σ H R => ta σ H fun vs H1 => ∃ (k l : Bool) (a b : Addr) (xs ys : List V), vs = [.ref a, .ref b] ∧ SqK k K H1 a xs ∧ SqK l K H1 b ys ∧ R (ItzK k l K a b (min xs.length ys.length)) H1
theorem pi_zipK {X : Cx} {e e2 : Expr} {ta : TA} {p pos tpos : Pos} {elts : List Expr} {kk : Nat} (hg : Gl X "zip") (hm : X.mg "zip" = none) (ha : PA X [e, e2] ta)
    (hs : starEach [e, e2] X.env = (false, eval e X.env) :: starEach [e2] X.env := by rfl) (hpl : (backTo pos (starEach [e2] X.env)).any (·.1) = false := by rfl) :
    PI X (.Tuple elts kk tpos) (.Call (.Name "zip" p) [e, e2] [] pos) (iZipK X.K ta) := by
  refine ⟨fun pins s σ H R I h => Call_ (ld_blt I hg hm PyProof.Rows.boot_zip (PyProof.Rows.callWith_type1 (thn (ha.run pos pins s σ H _ I h) fun us s1 ⟨vs, H1, I1, r1, q1⟩ => ?_) hs hpl))⟩
  obtain ⟨k, l, a, b, xs, ys, ev, hx, hy, q⟩ := q1
  subst ev
  obtain ⟨u, u', eu, ru, ru'⟩ : ∃ u u', us = [u, u'] ∧ RelV (.ref a) u ∧ RelV (.ref b) u' := by
    cases r1 with
    | cons r rr =>
      cases rr with
      | cons r' rr =>
        cases rr
        exact ⟨_, _, rfl, r, r'⟩
  subst eu
  obtain rfl : u = Value.ref a := ru
  obtain rfl : u' = Value.ref b := ru'
  obtain ⟨its, rv, p1⟩ := srcK I1 hx
  obtain ⟨jts, rw', p2⟩ := srcK I1 hy
  have la := ltK p1
  have lb := ltK p2
  refine zip_begins2 (beginsK k a its.toArray) (beginsK l b jts.toArray) p1 p2 fun g hz hTI hTO o1 o2 _ hk => wpAny_pyIter_zip hz ?_
  have S : ZipSep2 (s1.heap.objs.size + 4) (s1.heap.objs.size + 2) (s1.heap.objs.size + 3) s1.heap.objs.size (s1.heap.objs.size + 1) [s1.heap.objs.size, a] [s1.heap.objs.size + 1, b] :=
    zip_sep2 (fp1 := [a]) (fp2 := [b]) (fun c hc => by rw [List.mem_singleton.mp hc]; exact la) (fun c hc => by rw [List.mem_singleton.mp hc]; exact lb)
  refine ⟨s1.heap.objs.size + 4, [s1.heap.objs.size + 4, s1.heap.objs.size + 2, s1.heap.objs.size + 3, s1.heap.objs.size, s1.heap.objs.size + 1], _, _, H1, rfl, I1.kept (t' := s1.toks) hk, turn_zipK k l a b _ _ _ _ _ (min xs.length ys.length) S (Nat.ne_of_lt la) (Nat.ne_of_lt (Nat.lt_succ_of_lt lb)), ⟨Nat.zero_le _, hz, hTI, ⟨_, _, hTO⟩, onK o1, onK o2⟩, fun c hc => ?_, q⟩
  have hle : s1.heap.objs.size ≤ c := by
    rcases (show c = s1.heap.objs.size + 4 ∨ c = s1.heap.objs.size + 2 ∨ c = s1.heap.objs.size + 3 ∨ c = s1.heap.objs.size ∨ c = s1.heap.objs.size + 1 by simpa using hc) with q | q | q | q | q
    · rw [q]; exact Nat.le_add_right _ _
    · rw [q]; exact Nat.le_add_right _ _
    · rw [q]; exact Nat.le_add_right _ _
    · rw [q]; exact Nat.le_refl _
    · rw [q]; exact Nat.le_add_right _ _
  exact I1.fpOk hle (I1.hok.fresh hle)
end TGo
/-! The mirror: isinstance, all, zip, names of the module. -/
namespace Mir
open PySem PySem.Spec PyProof.Rows L2 RZ
section
variable {X : Cx} {B : Bd} {own : Bool} {e a b : Expr} {f g : M D} {pos p q : Pos} {x : Str}
/-! ### isinstance -/
def dTy : D → String
  | .none => "NoneType"
  | .bool _ => "bool"
  | .int _ => "int"
  | .str _ => "str"
  | .list _ => "list"
  | .tuple _ => "tuple"
  | .dict _ => "dict"
def dIsi (T : String) (d : D) : Bool := decide (dTy d = T) || (decide (dTy d = "bool") && decide (T = "int"))
def mIsi (T : String) (f : M D) : M D := bnd f fun d => ret (.bool (dIsi T d))
/-- the classes that are asked for -/
def TyOk (T : String) : Prop := ∀ t : String, t ∈ ["NoneType", "bool", "int", "str", "list", "tuple", "dict"] → kitB t T = some (decide (t = T) || (decide (t = "bool") && decide (T = "int")))
theorem ok_int : TyOk "int" := by
  intro t ht
  simp only [List.mem_cons, List.not_mem_nil, or_false] at ht
  rcases ht with rfl | rfl | rfl | rfl | rfl | rfl | rfl <;> decide +kernel
theorem ok_bool : TyOk "bool" := by
  intro t ht
  simp only [List.mem_cons, List.not_mem_nil, or_false] at ht
  rcases ht with rfl | rfl | rfl | rfl | rfl | rfl | rfl <;> decide +kernel
theorem ok_str : TyOk "str" := by
  intro t ht
  simp only [List.mem_cons, List.not_mem_nil, or_false] at ht
  rcases ht with rfl | rfl | rfl | rfl | rfl | rfl | rfl <;> decide +kernel
theorem ok_tuple : TyOk "tuple" := by
  intro t ht
  simp only [List.mem_cons, List.not_mem_nil, or_false] at ht
  rcases ht with rfl | rfl | rfl | rfl | rfl | rfl | rfl <;> decide +kernel
theorem dTy_mem (d : D) : dTy d ∈ ["NoneType", "bool", "int", "str", "list", "tuple", "dict"] := by
  cases d <;> simp [dTy]
theorem ty_of {K : PySem.W.Frag} {H G : Hp} {v : V} {d : D} (l : Le G H) (r : Dq K G v d) : TyX K H v (.type (dTy d)) := by
  cases r with
  | non => exact .base .non
  | bl b => exact .base (.bl b)
  | int b => exact .base (.int b)
  | str b => exact .base (.str b)
  | lst h _ =>
    rcases l.rd h with h | ⟨o, h⟩
    · exact .base (.lst h)
    · exact .base (.frz h)
  | tup h _ =>
    rcases l.st h with (h | ⟨o, h⟩) | ⟨o, its, n, h, c, _⟩
    · exact .base (.tup h)
    · exact .fTuple h
    · exact .kTuple h c
  | dic h =>
    rcases l.rd h with h | ⟨o, h⟩
    · exact .base (.dK h)
    · exact .fDict h
theorem e_isi {T : String} {y : Str} (hK : B.K = X.K) (hT : TyOk T) (he : PE X e (tE B f)) (h1 : X.mg "isinstance" = none) (h2 : X.mg y = none) (hy : bootBuiltins y = some (.type T) := by rfl) (g1 : Gl X "isinstance" := by rfl) (g2 : Gl X y := by rfl) (hn : y ≠ "__name__" := by decide) (hd : (y == ("__debug__" : Str)) = false := by decide)
    (hs : starEach [e, .Name y q] X.env = (false, eval e X.env) :: starEach [.Name y q] X.env := by rfl) (hs2 : starEach [.Name y q] X.env = (false, eval (.Name y q) X.env) :: starEach [] X.env := by rfl) (hpl : (backTo pos (starEach [.Name y q] X.env)).any (·.1) = false := by rfl) :
    PE X (.Call (.Name "isinstance" p) [e, .Name y q] [] pos) (tE B (mIsi T f)) :=
  PE.imp (pe_callB call_isi g1 h1 rfl (pa_cons he (pa_cons (pe_bltn (v := .ty T) g2 h2 hy rfl hn hd) pa_nil hs2) hs) (by decide) (by decide) hs hpl) fun σ H Q ⟨G, env, R, gd⟩ => ⟨G, env, R, (good_bnd gd).imp fun d e1 k v H1 G1 l1 R1 r1 => by
    refine ⟨v, .ty T, _, .type T, dIsi T d, rfl, .ty T, ?_, kit_ty (hT _ (dTy_mem d)), k _ H1 G1 l1 R1 (.bl _)⟩
    rw [← hK]
    exact ty_of R1.gnd.sub r1⟩
/-! ### all of a list of bools -/
def bools : List D → Option (List Bool)
  | [] => some []
  | .bool b :: r => (bools r).map (b :: ·)
  | _ => none
def dAll : List D → Option D
  | [.list ds] => (bools ds).map fun bs => .bool (bs.all fun b => b)
  | _ => none
theorem bools_v {K : PySem.W.Frag} {G : Hp} : ∀ {xs : List V} {ds : List D} {bs : List Bool}, DqAll K G xs ds → bools ds = some bs → xs = bs.map V.bl
  | _, _, _, .nil, h => by
    unfold bools at h
    cases h
    rfl
  | _, _, bs, .cons r t, h => by
    cases r with
    | bl b =>
      unfold bools at h
      obtain ⟨cs, h1, h2⟩ := Option.map_eq_some_iff.mp h
      subst h2
      rw [bools_v t h1]
      rfl
    | _ => simp only [bools, reduceCtorEq] at h
theorem caS_all (hK : B.K = X.K) : CaS B (rAll X.K) dAll := by
  intro xs ds d H G Q gg r e q _
  rw [← hK]
  cases r with
  | nil => cases e
  | cons r1 r2 =>
    cases r2 with
    | cons _ _ => cases r1 <;> simp only [dAll, reduceCtorEq] at e
    | nil =>
      cases r1 with
      | lst h hx =>
        simp only [dAll] at e
        obtain ⟨bs, h1, h2⟩ := Option.map_eq_some_iff.mp e
        subst h2
        have ex := bools_v hx h1
        subst ex
        have e2 : (bs.all fun b => b) = bs.all id := rfl
        rw [e2] at q
        exact ⟨_, bs, rfl, .inl (gg.sub.rd h), q _ (.bl _)⟩
      | _ => simp only [dAll, reduceCtorEq] at e
/-! ### zip -/
def mZip (a : M (List D)) : M (List D) := bnd a fun ds => match ds with
  | [x, y] => (match dItems x, dItems y with
    | some xs, some ys => ret ((xs.zip ys).map fun p => .tuple [p.1, p.2])
    | _, _ => bad)
  | _ => bad
theorem zip_at {xs ys : List D} {i : Nat} {d : D} (h : ((xs.zip ys).map fun p => PyData.tuple [p.1, p.2])[i]? = some d) : ∃ u v, xs[i]? = some u ∧ ys[i]? = some v ∧ d = .tuple [u, v] := by
  rw [List.getElem?_map] at h
  obtain ⟨⟨u, v⟩, h1, h2⟩ := Option.map_eq_some_iff.mp h
  rw [List.getElem?_zip_eq_some] at h1
  exact ⟨u, v, h1.1, h1.2, h2.symm⟩
/-- what holds items: a list, a tuple (k) -/
theorem items_at {G : Hp} {x : V} {d : D} {ds : List D} (r : Dq B.K G x d) (h : dItems d = some ds) : ∃ (k : Bool) (a : Addr) (xs : List V), x = .ref a ∧ DqAll B.K G xs ds ∧ ∀ H, Le G H → TGo.SqK k B.K H a xs := by
  cases r with
  | lst hx ha =>
    cases h
    exact ⟨false, _, _, rfl, ha, fun H l => .inl (l.rd hx)⟩
  | tup hx ha =>
    cases h
    exact ⟨true, _, _, rfl, ha, fun H l => l.st hx⟩
  | _ => cases h
theorem iter_zipK {G : Hp} {k l : Bool} {a b : Addr} {xs ys : List V} {ds es : List D} (hx : ∀ H, Le G H → TGo.SqK k B.K H a xs) (hy : ∀ H, Le G H → TGo.SqK l B.K H b ys) (ha : DqAll B.K G xs ds) (hb : DqAll B.K G ys es) : Iter B G (TGo.ItzK k l B.K a b (min xs.length ys.length)) ((ds.zip es).map fun p => .tuple [p.1, p.2]) := by
  intro i σ H' G' env le R
  have sx := hx H' (le.trans R.gnd.sub)
  have sy := hy H' (le.trans R.gnd.sub)
  have ha' := DqAll.mono le _ _ ha
  have hb' := DqAll.mono le _ _ hb
  have la := Mir.DqAll.len ha
  have lb := Mir.DqAll.len hb
  refine ⟨fun hi => ⟨?_, xs, ys, sx, sy, rfl⟩, fun d hd => ?_⟩
  · rw [List.length_map, List.length_zip] at hi
    omega
  · obtain ⟨u, v, h1, h2, rfl⟩ := zip_at hd
    obtain ⟨x, e1, r1⟩ := Mir.DqAll.at ha' h1
    obtain ⟨y, e2, r2⟩ := Mir.DqAll.at hb' h2
    have b1 := (List.getElem?_eq_some_iff.mp e1).1
    have b2 := (List.getElem?_eq_some_iff.mp e2).1
    refine ⟨⟨by omega, xs, ys, sx, sy, rfl⟩, fun z H3 hz => ?_⟩
    obtain ⟨T, x', y', rfl, hT, rfl, q1, q2⟩ := hz
    have z1 := q1 xs sx
    have z2 := q2 ys sy
    rw [e1] at z1
    rw [e2] at z2
    cases z1
    cases z2
    have gT : G' T = none := R.gnd.sub.none hT
    exact ⟨upd G' T (.tup [x, y]), Le.new gT, R.new hT (fun ps z => by cases z), .tup (.inl (.inl upd_same)) (DqAll.mono (Le.new gT) _ _ (.cons r1 (.cons r2 .nil))), Le.new hT, fun c o h => by
      by_cases hc : c = T
      · exact .inr (by rw [hc]; exact hT)
      · rw [upd_ne hc] at h; exact .inl h⟩
theorem i_zip {ga : M (List D)} {tpos : Pos} {elts : List Expr} {kk : Nat} (hK : B.K = X.K) (ha : PA X [a, b] (tA B ga)) (hm : X.mg "zip" = none) (hg : Gl X "zip" := by rfl)
    (hs : starEach [a, b] X.env = (false, eval a X.env) :: starEach [b] X.env := by rfl) (hpl : (backTo pos (starEach [b] X.env)).any (·.1) = false := by rfl) : PI X (.Tuple elts kk tpos) (.Call (.Name "zip" p) [a, b] [] pos) (tI B (mZip ga)) :=
  PI.imp (TGo.pi_zipK hg hm ha hs hpl) fun σ H R' ⟨G, env, R, gd⟩ => ⟨G, env, R, (good_bnd gd).imp fun ds e1 q xs H1 G1 l1 R1 r1 => by
    rw [← hK]
    cases r1 with
    | nil => exact q.elim
    | cons r1 r2 =>
      cases r2 with
      | nil => exact q.elim
      | @cons v2 vs2 y ds2 r2 r3 =>
        cases r3 with
        | cons _ _ => exact q.elim
        | nil =>
          rename_i v1 x
          cases hx : dItems x with
          | none => simp only [hx] at q; exact q.elim
          | some zs =>
            cases hy : dItems y with
            | none => simp only [hx, hy] at q; exact q.elim
            | some ws =>
              simp only [hx, hy] at q
              obtain ⟨k, c1, us, rfl, h1, h2⟩ := items_at r1 hx
              obtain ⟨l, c2, us2, rfl, h3, h4⟩ := items_at r2 hy
              exact ⟨k, l, c1, c2, us, us2, rfl, h2 H1 R1.gnd.sub, h4 H1 R1.gnd.sub, q _ H1 G1 l1 R1 (iter_zipK h2 h4 h1 h3)⟩⟩
/-! ### the rest -/
/-- a statement that is not reached -/
theorem s_bad {st : Stmt} : PS X st (tS B own bad) := ⟨fun pins s σ H De I ⟨G, env, R, gd⟩ => gd.elim⟩
/-- a whole number of the module -/
theorem e_glob {i : Int} {t : Tok} (hm : X.mg x = some (.int i t)) (hg : Gl X x := by rfl) (hd : (x == ("__debug__" : Str)) = false := by decide) : PE X (.Name x pos) (tE B (ret (.int i))) := e_c (pe_glob (v := .int i) hg hm ⟨t, rfl⟩ hd) fun _ => .int i
end
end Mir
/-! The mirror's defs by name. -/
namespace Mir
open PySem PySem.Spec PyProof.Rows L2
/-- a def that the head has written, its code object cd -/
structure FunC (K : PySem.W.Frag) (x : Str) (st : Stmt) (f : Addr) (kV doc pm cd ct : Value) (an : Option Addr) : Prop where
  ex : ∃ (oc : Value) (od : Option Addr) (osl : Array (Option Value)), K.lookup f = some ⟨oc, od, .func (PySem.W.fnOf x x (defArgs st) (defBody st) (defScope st) .none kV doc pm an cd ct), osl⟩ ∧ PySem.W.codeIn K cd x = true
  kp : PySem.W.keepIn K (.ref f) = true
section
variable {P : Program} {w : World} {K : PySem.W.Frag} {mg : Str → Option Value} {base : Heap}
theorem FunC.okG {x : Str} {st : Stmt} {f : Addr} {kV doc pm cd ct : Value} {an : Option Addr} {N ps : List Str} {k : Nat} {sp : Sp} (F : FunC K x st f kV doc pm cd ct an) (S : FnScope N ps (defScope st)) (len : ∀ vs H Q E, sp vs H Q E → vs.length = ps.length)
    (hbody : ∀ (A : Around) (outer : List PySem.Env) (s : Shared) (H : Hp) (vs : List V) (Q : VK) (E : XK), RoomG k (A.deeper (envOfC x (defScope st) s.heap.objs.size f cd)) → sp vs H Q E →
      ∃ t, PSs (cxOf (L2.CX P w) P w K mg base N x (defScope st) f cd A outer s H E) (defBody st) t ∧ t { nx := fun _ H' => Q .non H', rt := Q } (L2.start N vs) H) : FnG P w K mg base (k + 1) f (PySem.W.fnOf x x (defArgs st) (defBody st) (defScope st) .none kV doc pm an cd ct) ps sp := by
  obtain ⟨oc, od, osl, lk, hcd⟩ := F.ex
  exact ⟨len, fun A outer s H args us vs Q E hr e0 hb r hsp => LamX.run_ofS lk hcd S hr.r e0 hb r (len _ _ _ _ hsp) fun _ => hbody A outer s H vs Q E (hr.deeper _) hsp⟩
/-- THE RULE: a def keeps its mirror's promise -/
theorem ok_defC {x : Str} {st : Stmt} {f : Addr} {kV doc pm cd ct : Value} {an : Option Addr} {N ps : List Str} {k : Nat} (F : FunC K x st f kV doc pm cd ct an) (S : FnScope N ps (defScope st)) (T : List Addr) (mu : List Bool) (io own : Bool) (body : M Fl) (hm : muOk mu io ps.length = true) (hN : ps.length ≤ N.length)
    (hb : ∀ (A : Around) (outer : List Env) (s : Shared) (H G : Hp) (b : Addr) (E : XK), RoomG k (A.deeper (envOfC x (defScope st) s.heap.objs.size f cd)) →
      PSs (cxOf (L2.CX P w) P w K mg base N x (defScope st) f cd A outer s H E) (defBody st) (tS (bodyB K H G mu io b T E) own body)) :
    FnG P w K mg base (k + 1) f (PySem.W.fnOf x x (defArgs st) (defBody st) (defScope st) .none kV doc pm an cd ct) ps (spM K T io own (mDef ps.length N.length io own body)) := by
  have len : ∀ {vs : List V} {H : Hp} {Q : VK} {E : XK}, spM K T io own (mDef ps.length N.length io own body) vs H Q E → ∃ G b ds, ArgsR K H G T io b vs ds ∧ ds.length = ps.length := fun {vs H Q E} ⟨G, b, ds, ha, _, q⟩ => by
    refine ⟨G, b, ds, ha, ?_⟩
    by_cases h : ds.length = ps.length
    · exact h
    · rw [mDef_len h] at q
      exact q.elim
  refine F.okG S (fun vs H Q E h => ?_) fun A outer s H vs Q E hr h => ?_
  · obtain ⟨G, b, ds, ha, hl⟩ := len h
    rw [args_len ha]
    exact hl
  · obtain ⟨_, _, _, ha', hl'⟩ := len h
    obtain ⟨G, b, ds, ha, g, q⟩ := h
    have hl : ds.length = ps.length := by rw [← args_len ha, args_len ha']; exact hl'
    refine ⟨_, hb A outer s H G b E hr, G, _, start_rel ha g (by rw [hl]; exact hm) (by rw [hl]; exact hN), ?_⟩
    unfold mDef at q
    rw [if_pos (decide_eq_true hl)] at q
    have gb : ∀ {H' G' : Hp} {env : ME}, End (bodyB K H G mu io b T E) H' G' env → Gnd (b0 K H G io b T) H' G' := fun {H' G' env} z => ⟨z.gnd.sub, z.gnd.g0, z.gnd.fr, z.gnd.nw, z.gnd.nt, z.gnd.tab, z.gnd.keep⟩
    have gio : ∀ {H' G' : Hp} {env : ME}, End (bodyB K H G mu io b T E) H' G' env → io = true → ∃ d0, (if io = true then env.getD 0 none else none) = some d0 ∧ Own (b0 K H G io b T) H' G' b d0 := fun {H' G' env} z hio => by
      subst hio
      obtain ⟨d0, h1, h2⟩ := z.io (0, b) (List.mem_singleton.mpr rfl)
      refine ⟨d0, ?_, ⟨h2.ex, h2.out⟩⟩
      rw [if_pos rfl, List.getD_eq_getElem?_getD]
      have h1 : env[0]? = some (some d0) := h1
      rw [h1]
      rfl
    cases hr' : body (ds.map some ++ List.replicate (N.length - ds.length) none) with
    | bad => rw [hr'] at q; exact q.elim
    | exc x e =>
      rw [hr'] at q
      intro σ' H' G' cls dd R' hx
      exact q H' G' cls dd (gb R'.fin) ⟨hx.cls, hx.pay⟩
    | ok fl e =>
      rw [hr'] at q
      cases fl with
      | nx =>
        intro σ' H' G' _ R'
        by_cases ho : own = true
        · simp only [ho, if_true] at q
        · simp only [ho] at q
          exact q H' G' (gb R'.fin) (gio R'.fin) .non .non
      | rt d =>
        show if own = true then _ else _
        by_cases ho : own = true
        · rw [if_pos ho]
          intro c H' G' z hw h0
          have q := q H' G' (gb z) (gio z)
          rw [if_pos ho] at q
          exact q c ⟨hw.ex, hw.out⟩ h0
        · rw [if_neg ho]
          intro y H' G' z hy
          have q := q H' G' (gb z) (gio z)
          rw [if_neg ho] at q
          exact q y hy
      | bk => exact q.elim
      | ct => exact q.elim
end

/-- a def as its callers see it -/
structure DefOk (P : Program) (w : World) (K : PySem.W.Frag) (mg : Str → Option Value) (base : Heap) (T0 : List Addr) (k : Nat) (x : Str) (st : Stmt) (ps : List Str) (io own : Bool) (m : List D → Rs) : Prop where
  ex : ∃ (f : Addr) (kV doc pm cd ct : Value) (an : Option Addr), (∀ T : List Addr, (∀ P ∈ T0, P ∈ T) → FnG P w K mg base k f (PySem.W.fnOf x x (defArgs st) (defBody st) (defScope st) .none kV doc pm an cd ct) ps (spM K T io own m)) ∧
    mg x = some (.ref f) ∧ PySem.W.keepIn K (.ref f) = true ∧ ∀ us : List Value, us.length = ps.length → bindArgs (PySem.W.fnOf x x (defArgs st) (defBody st) (defScope st) .none kV doc pm an cd ct) ⟨us, []⟩ = pure (ps.zip us)
theorem DefOk.mono {P : Program} {w : World} {K : PySem.W.Frag} {mg : Str → Option Value} {base : Heap} {T0 : List Addr} {j k : Nat} {x : Str} {st : Stmt} {ps : List Str} {io own : Bool} {m : List D → Rs} (d : DefOk P w K mg base T0 j x st ps io own m) (h : j ≤ k) : DefOk P w K mg base T0 k x st ps io own m := by
  obtain ⟨f, kV, doc, pm, cd, ct, an, F, r⟩ := d.ex
  exact ⟨f, kV, doc, pm, cd, ct, an, fun T hT => (F T hT).mono h, r⟩
theorem defOk_mk {P : Program} {w : World} {K : PySem.W.Frag} {mg : Str → Option Value} {base : Heap} {T0 : List Addr} {x : Str} {st : Stmt} {f : Addr} {kV doc pm cd ct : Value} {an : Option Addr} {N ps : List Str} {k : Nat} (F : FunC K x st f kV doc pm cd ct an) (S : FnScope N ps (defScope st)) (mu : List Bool) (io own : Bool) (body : M Fl) (hmg : mg x = some (.ref f))
    (hbind : ∀ us : List Value, us.length = ps.length → bindArgs (PySem.W.fnOf x x (defArgs st) (defBody st) (defScope st) .none kV doc pm an cd ct) ⟨us, []⟩ = pure (ps.zip us)) (hm : muOk mu io ps.length = true) (hN : ps.length ≤ N.length)
    (hb : ∀ (T : List Addr), (∀ P ∈ T0, P ∈ T) → ∀ (A : Around) (outer : List Env) (s : Shared) (H G : Hp) (b : Addr) (E : XK), RoomG k (A.deeper (envOfC x (defScope st) s.heap.objs.size f cd)) →
      PSs (cxOf (L2.CX P w) P w K mg base N x (defScope st) f cd A outer s H E) (defBody st) (tS (bodyB K H G mu io b T E) own body)) : DefOk P w K mg base T0 (k + 1) x st ps io own (mDef ps.length N.length io own body) :=
  ⟨f, kV, doc, pm, cd, ct, an, fun T hT => ok_defC F S T mu io own body hm hN (hb T hT), hmg, F.kp, hbind⟩
theorem defOk_bad {P : Program} {w : World} {K : PySem.W.Frag} {mg : Str → Option Value} {base : Heap} {T0 : List Addr} {x : Str} {st : Stmt} {f : Addr} {kV doc pm cd ct : Value} {an : Option Addr} {ps : List Str} {k : Nat} {io own : Bool} (F : FunC K x st f kV doc pm cd ct an) (hmg : mg x = some (.ref f))
    (hbind : ∀ us : List Value, us.length = ps.length → bindArgs (PySem.W.fnOf x x (defArgs st) (defBody st) (defScope st) .none kV doc pm an cd ct) ⟨us, []⟩ = pure (ps.zip us)) : DefOk P w K mg base T0 k x st ps io own (fun _ => .bad) :=
  ⟨f, kV, doc, pm, cd, ct, an, fun T hT => ⟨fun vs H Q E ⟨_, _, _, _, _, q⟩ => q.elim, fun A outer s H args us vs Q E hr _ _ _ ⟨_, _, _, _, _, q⟩ => q.elim⟩, hmg, F.kp, hbind⟩
section
variable {X : Cx} {B : Bd} {T0 : List Addr} {k : Nat} {st : Stmt} {ps : List Str} {m : List D → Rs} {x : Str} {p pos : Pos} {e : Expr} {es : List Expr} {ga : M (List D)} {g : M D} {own : Bool}
theorem e_callD (d : DefOk X.prog X.w X.K X.mg X.base T0 k x st ps false false m) (hK : B.K = X.K) (hT : ∀ P ∈ T0, P ∈ B.T) (hr : RoomG k X.A) (ha : PA X (e :: es) (tA B ga)) (hg : Gl X x := by rfl)
    (hdb : (x == ("__debug__" : Str)) = false := by decide) (he : starEach (e :: es) X.env = (false, eval e X.env) :: starEach es X.env := by rfl) (hpl : (backTo pos (starEach es X.env)).any (·.1) = false := by rfl) : PE X (.Call (.Name x p) (e :: es) [] pos) (tE B (mCall m ga)) := by
  obtain ⟨f, kV, doc, pm, cd, ct, an, F, h1, h2, h3⟩ := d.ex
  have F' := F B.T hT
  rw [← hK] at F' h2
  exact e_call hK (by rw [← hK]; exact F') hr h1 (by rw [← hK]; exact h2) (.all h3) ha hg hdb he hpl
theorem o_callD (d : DefOk X.prog X.w X.K X.mg X.base T0 k x st ps false true m) (hK : B.K = X.K) (hT : ∀ P ∈ T0, P ∈ B.T) (hr : RoomG k X.A) (ha : PA X (e :: es) (tA B ga)) (hg : Gl X x := by rfl)
    (hdb : (x == ("__debug__" : Str)) = false := by decide) (he : starEach (e :: es) X.env = (false, eval e X.env) :: starEach es X.env := by rfl) (hpl : (backTo pos (starEach es X.env)).any (·.1) = false := by rfl) : PE X (.Call (.Name x p) (e :: es) [] pos) (tO B (mCall m ga)) := by
  obtain ⟨f, kV, doc, pm, cd, ct, an, F, h1, h2, h3⟩ := d.ex
  have F' := F B.T hT
  rw [← hK] at F'
  exact o_call hK (by rw [← hK]; exact F') hr h1 h2 (.all h3) ha hg hdb he hpl
theorem e_callID {y : Str} {py : Pos} (i : Nat) (d : DefOk X.prog X.w X.K X.mg X.base T0 k x st ps true false m) (hK : B.K = X.K) (hT : ∀ P ∈ T0, P ∈ B.T) (hr : RoomG k X.A) (ha : PA X es (tA B ga)) (hmu : B.mu.getD i false = true := by rfl) (hg : Gl X x := by rfl) (hN : X.N[i]? = some y := by rfl) (hv : Vis X.env.scope y := by first | exact Or.inl rfl | exact Or.inr (Or.inl rfl) | exact Or.inr (Or.inr rfl)) (hd : (y == ("__debug__" : Str)) = false := by decide)
    (hcd : (y == ("__classdict__" : Str)) = false := by decide) (hdb : (x == ("__debug__" : Str)) = false := by decide) (hst : starEach (.Name y py :: es) X.env = (false, eval (.Name y py) X.env) :: starEach es X.env := by rfl) (hpl : (backTo pos (starEach es X.env)).any (·.1) = false := by rfl) :
    PE X (.Call (.Name x p) (.Name y py :: es) [] pos) (tE B (mCallI i m ga)) := by
  obtain ⟨f, kV, doc, pm, cd, ct, an, F, h1, h2, h3⟩ := d.ex
  have F' := F B.T hT
  rw [← hK] at F'
  exact e_callI (py := py) i hK (by rw [← hK]; exact F') hr h1 h2 (.all h3) ha (hmu := hmu) (hg := hg) (hN := hN) (hv := hv) (hd := hd) (hcd := hcd) (hdb := hdb) (hst := hst) (hpl := hpl)
theorem e_callTD (d : DefOk X.prog X.w X.K X.mg X.base T0 k x st ps true false m) (hK : B.K = X.K) (hT : ∀ P ∈ T0, P ∈ B.T) (hr : RoomG k X.A) (ha : PE X e (tO B g)) (hg : Gl X x := by rfl)
    (hdb : (x == ("__debug__" : Str)) = false := by decide) (he : starEach [e] X.env = (false, eval e X.env) :: starEach [] X.env := by rfl) (hpl : (backTo pos (starEach [] X.env)).any (·.1) = false := by rfl) : PE X (.Call (.Name x p) [e] [] pos) (tE B (mCallT m g)) := by
  obtain ⟨f, kV, doc, pm, cd, ct, an, F, h1, h2, h3⟩ := d.ex
  have F' := F B.T hT
  rw [← hK] at F'
  exact e_callT hK (by rw [← hK]; exact F') hr h1 h2 (.all h3) ha hg hdb he hpl
/-! ### keywords alone -/
def pick {α : Type} (perm : List Nat) (xs : List α) : List α := perm.filterMap fun j => xs[j]?
def mCallKW (perm : List Nat) (m : List D → Rs) (a : M (List D)) : M D := bnd a fun ds => if decide (ds.length = perm.length) = true then (match m (pick perm ds) with
  | .ok d _ => ret d
  | _ => bad) else bad
end
end Mir
/-! tuple[::-1]. -/
namespace Mir
open PySem PySem.Spec PyProof.Rows L2 HT
section
variable {prog : Program} {w : World} {A : Around} {E : Value → Shared → Prop} {s : Shared}
end
def tRevT (K : PySem.W.Frag) (te : TE) : TE := fun σ H Q => te σ H fun x H1 => ∃ a xs, x = .ref a ∧ SqT K H1 a xs ∧ ∀ p, H1 p = none → Q (.ref p) (upd H1 p (.tup xs.reverse))
end Mir
/-! The mirror's repr; gcd. -/
namespace Mir
open PySem PySem.Spec PyProof.Rows L2
/-- what is shown -/
def showOk (d : D) : Bool := SeqAt.shaped d && (PyData.showable d && (!PyData.hasDict d && fits (PyData.shown d).length))
def mRepr (f : M D) : M D := bnd f fun d => if showOk d = true then ret (.str (PyData.shown d)) else bad
def rShow (K : PySem.W.Frag) : List V → Hp → VK → Prop := fun xs H Q => ∃ x d, xs = [x] ∧ Dp K H x d ∧ showOk d = true ∧ Q (.str (PyData.shown d)) H
section
variable {X : Cx} {B : Bd} {e : Expr} {f : M D} {p pos : Pos} {ga : M (List D)} {k : Nat}
/-- t[::-1] of a tuple -/
def mRev (f : M D) : M D := bnd f fun d => match d with
  | .tuple xs => ret (.tuple xs.reverse)
  | _ => bad
/-- a chain as a test -/
theorem t_chain {a b c : Expr} {op op' : CmpOp} {p p' : Int → Int → Bool} {f1 f2 f3 : M D} (ho : OpR X (compareOp op) (rI0 fun i j => .bl (p i j))) (ho' : OpR X (compareOp op') (rI0 fun i j => .bl (p' i j))) (ha : PE X a (tE B f1)) (hb : PE X b (tE B f2)) (hc : PE X c (tE B f3))
    (hm : lastMarks [op, op'] [b, c] = false := by with_unfolding_all rfl) : PT X (.Compare a [op, op'] [b, c] pos) (tT B (mB (mChain (dCmp p) (dCmp p') f1 f2 f3))) :=
  PT.imp (pt_chain ho ho' ha hb hc hm) fun σ H Q q => by
    obtain ⟨G, env, R, gd⟩ := b_imp σ H Q q
    exact ⟨G, env, R, (good_bnd gd).imp fun d1 e1 k1 x H1 G1 l1 R1 r1 => ⟨G1, e1, R1, (good_bnd k1).imp fun d2 e2 k2 y H2 G2 l2 R2 r2 => by
      obtain ⟨d, hd, k⟩ := good_opt (good_bnd k2)
      obtain ⟨b, hb, hq⟩ := opB_cmp (B := B) x y d1 d2 d H2 G2 _ R2.gnd (Dq.mono l2 _ _ r1) r2 hd
      subst hb
      refine hq ⟨b, rfl, ?_⟩
      cases b with
      | false =>
        rw [if_neg Bool.false_ne_true]
        exact k (.bl false) H2 G2 (l1.trans l2) R2 (.bl false)
      | true =>
        rw [if_pos rfl]
        refine ⟨G2, e2, R2, (good_bnd k).imp fun d3 e3 k3 w H3 G3 l3 R3 r3 => ?_⟩
        obtain ⟨d', hd', k'⟩ := good_opt k3
        exact (opS_cmp (B := B)) y w d2 d3 d' H3 G3 _ R3.gnd (Dq.mono l3 _ _ r2) r3 hd' (fun z hz => k' z H3 G3 ((l1.trans l2).trans l3) R3 hz) fun p o z hp ho hz =>
          k' z _ _ (((l1.trans l2).trans l3).trans (Le.new (R3.gnd.sub.none hp))) (R3.new hp ho) hz⟩⟩
/-! ### built-in functions -/
theorem e_bi {x : Str} {id : String} {es : List Expr} {r : List V → Hp → VK → Prop} {gg : List D → Option D} (hc : CallR X (.builtin id) r) (hS : CaS B r gg) (hm : X.mg x = none) (ha : PA X (e :: es) (tA B ga)) (hv : bootBuiltins x = some (.builtin id) := by rfl) (hg : Gl X x := by rfl) (hn : x ≠ "__name__" := by decide) (hdb : (x == ("__debug__" : Str)) = false := by decide)
    (he : starEach (e :: es) X.env = (false, eval e X.env) :: starEach es X.env := by rfl) (hpl : (backTo pos (starEach es X.env)).any (·.1) = false := by rfl) : PE X (.Call (.Name x p) (e :: es) [] pos) (tE B (mCa gg ga)) :=
  PE.imp (pe_callB hc hg hm hv ha hn hdb he hpl) (ca_imp hS)
theorem e_ty {x : Str} {T : String} {es : List Expr} {r : List V → Hp → VK → Prop} {gg : List D → Option D} (hc : CallR X (.type T) r) (hS : CaS B r gg) (hm : X.mg x = none) (ha : PA X (e :: es) (tA B ga)) (hv : bootBuiltins x = some (.type T) := by rfl) (hg : Gl X x := by rfl) (hn : x ≠ "__name__" := by decide) (hdb : (x == ("__debug__" : Str)) = false := by decide)
    (he : starEach (e :: es) X.env = (false, eval e X.env) :: starEach es X.env := by rfl) (hpl : (backTo pos (starEach es X.env)).any (·.1) = false := by rfl) : PE X (.Call (.Name x p) (e :: es) [] pos) (tE B (mCa gg ga)) :=
  PE.imp (pe_callTy hc hg hm hv ha hn hdb he hpl) (ca_imp hS)
theorem e_gcd {x : Str} {es : List Expr} (hm : X.mg x = some (.builtin "math.gcd")) (ha : PA X (e :: es) (tA B ga)) (hg : Gl X x := by rfl) (hdb : (x == ("__debug__" : Str)) = false := by decide)
    (he : starEach (e :: es) X.env = (false, eval e X.env) :: starEach es X.env := by rfl) (hpl : (backTo pos (starEach es X.env)).any (·.1) = false := by rfl) : PE X (.Call (.Name x p) (e :: es) [] pos) (tE B (mCa (gI2 iGcd) ga)) :=
  PE.imp (pe_callBfun cr_gcd hg hm ha hdb he hpl) (ca_imp (caS_I2 (h := iGcd)))
theorem muAll {mu : List Bool} {us : List Nat} (h : (us.all fun v => !(mu.getD v false)) = true) : ∀ v ∈ us, mu.getD v false = false := fun v hv => by
  have := List.all_eq_true.mp h v hv
  simpa using this
end
end Mir
/-! The mirror's list(range(n)). -/
namespace Mir
open PySem PySem.Spec PyProof.Rows L2
section
variable {X : Cx} {B : Bd} {e : Expr} {f : M D} {p p2 pos pos2 : Pos}
def mListRg (f : M D) : M D := bnd f fun d => match d with
  | .int n => if decide (n ≤ 100000) = true then (if decide (0 ≤ n) = true then ret (.list (rngD 0 n.toNat)) else bad) else bad
  | _ => bad
theorem rg_dq {K : PySem.W.Frag} {G : Hp} (a : Int) : ∀ (l : List Nat), DqAll K G (l.map fun i => V.int (a + (i : Nat))) (l.map fun i => .int (a + ((i : Nat) : Int)))
  | [] => .nil
  | i :: l => .cons (.int _) (rg_dq a l)
theorem o_listRg (hc : X.calm = true) (he : PE X e (tE B f)) (hl : X.mg "list" = none) (hr : X.mg "range" = none) (gl : Gl X "list" := by rfl) (gr : Gl X "range" := by rfl) (na : starEach [e] X.env = (false, eval e X.env) :: starEach [] X.env := by rfl)
    (na2 : starEach [.Call (.Name "range" p2) [e] [] pos2] X.env = (false, eval (.Call (.Name "range" p2) [e] [] pos2) X.env) :: starEach [] X.env := by rfl) : PE X (.Call (.Name "list" p) [.Call (.Name "range" p2) [e] [] pos2] [] pos) (tO B (mListRg f)) :=
  PE.imp (pe_listRg hc gl hl (prg_1 gr hr he na) na2) fun σ H Q ⟨G, env, R, gd⟩ => ⟨G, env, R, (good_bnd gd).imp fun d e1 k x H1 G1 l1 R1 r1 => by
    cases r1 with
    | int n =>
      by_cases h1 : decide (n ≤ 100000) = true
      · by_cases h2 : decide (0 ≤ n) = true
        · simp only [h1, h2, if_true] at k
          have h1 := of_decide_eq_true h1
          have h2 := of_decide_eq_true h2
          refine ⟨n, rfl, .of_le (by omega) (by omega) (by omega) (by omega), fun q hq => ?_⟩
          refine k q _ G1 l1 (R1.laid hq) ⟨⟨rgV 0 n, rngD 0 n.toNat, rfl, upd_same, ?_⟩, R1.gnd.sub.none hq⟩ (R1.fresh hq)
          have e : (n - 0).toNat = n.toNat := by omega
          unfold rgV rngD
          rw [e]
          exact rg_dq 0 _
        · simp only [h1, if_true] at k
          rw [if_neg h2] at k
          exact k.elim
      · simp only at k
        rw [if_neg h1] at k
        exact k.elim
    | _ => exact k.elim⟩
end
end Mir
/-! The mirror's math.lcm. -/
namespace Mir
open PySem PySem.Spec PyProof.Rows L2
/-- math.lcm of two numbers below 2 ^ 9000 -/
def gLcm : List D → Option D
  | [.int i, .int j] => if decide (i.natAbs.log2 < 9000) = true then (if decide (j.natAbs.log2 < 9000) = true then some (.int ((Nat.lcm i.natAbs j.natAbs : Nat) : Int)) else none) else none
  | _ => none
theorem lt_pow {i k : Nat} (h : i.log2 < k) : i < 2 ^ k := by
  by_cases z : i = 0
  · rw [z]; exact Nat.two_pow_pos k
  · exact (Nat.log2_lt z).mp h
section
variable {X : Cx} {B : Bd}
variable {x : Str} {p pos : Pos} {e : Expr} {es : List Expr} {ga : M (List D)}
end
end Mir
/-! The mirror: enumerate, starred displays, list(x), int(bool), three names at once. -/
namespace Mir
open PySem PySem.Spec PyProof.Rows L2
section
variable {X : Cx} {B : Bd} {p pos : Pos} {e : Expr} {es : List Expr}
/-! ### *e in a display -/
def mStar (f : M D) (g : M (List D)) : M (List D) := bnd f fun d => bnd (opt (dItems d)) fun xs => bnd g fun ys => ret (xs ++ ys)
theorem items_any {G : Hp} {x : V} {d : D} {ds : List D} (r : Dq B.K G x d) (h : dItems d = some ds) : ∃ (a : Addr) (xs : List V), x = .ref a ∧ DqAll B.K G xs ds ∧ ∀ H, Le G H → (SqT B.K H a xs ∨ SqL B.K H a xs) := by
  obtain ⟨k, a, xs, e, h1, h2⟩ := items_at r h
  refine ⟨a, xs, e, h1, fun H l => ?_⟩
  have z := h2 H l
  cases k with
  | true => exact .inl z
  | false => exact .inr z
/-! ### list(e), a list of one's own -/
def mListOf (f : M D) : M D := bnd f fun d => bnd (opt (dItems d)) fun xs => ret (.list xs)
theorem o_listOf {f : M D} (hK : B.K = X.K) (he : PE X e (tE B f)) (hm : X.mg "list" = none) (hg : Gl X "list" := by rfl) (hs : starEach [e] X.env = (false, eval e X.env) :: starEach [] X.env := by rfl) : PE X (.Call (.Name "list" p) [e] [] pos) (tO B (mListOf f)) :=
  PE.imp (pe_callTy call_list_of hg hm rfl (pa_cons he pa_nil hs) (by decide) (by decide) hs rfl) fun σ H Q ⟨G, env, R, gd⟩ => ⟨G, env, R, (good_bnd gd).imp fun d e1 k x H1 G1 l1 R1 r1 => by
    obtain ⟨ds, hd, k⟩ := good_opt (good_bnd k)
    obtain ⟨a, xs, rfl, h1, h2⟩ := items_any r1 hd
    rw [← hK]
    refine ⟨a, xs, rfl, (h2 H1 R1.gnd.sub).symm, fun q hq => ?_⟩
    exact k q _ G1 l1 (R1.laid hq) ⟨⟨xs, ds, rfl, upd_same, h1⟩, R1.gnd.sub.none hq⟩ (R1.fresh hq)⟩
/-! ### enumerate -/
def enumD (ds : List D) : List D := (List.range ds.length).map fun i => .tuple [.int (i : Nat), ds.getD i .none]
def mEnum (a : M (List D)) : M (List D) := bnd a fun ds => match ds with
  | [x] => (match dItems x with
    | some xs => ret (enumD xs)
    | none => bad)
  | _ => bad
theorem enum_at {ds : List D} {i : Nat} {d : D} (h : (enumD ds)[i]? = some d) : ∃ u, ds[i]? = some u ∧ d = .tuple [.int (i : Nat), u] := by
  unfold enumD at h
  rw [List.getElem?_map] at h
  obtain ⟨j, h1, h2⟩ := Option.map_eq_some_iff.mp h
  obtain ⟨h3, h4⟩ := List.getElem?_eq_some_iff.mp h1
  rw [List.getElem_range] at h4
  rw [List.length_range] at h3
  subst h4
  refine ⟨ds[i], List.getElem?_eq_getElem h3, ?_⟩
  rw [← h2, List.getD_eq_getElem?_getD, List.getElem?_eq_getElem h3]
  rfl
theorem iter_enumL {G : Hp} {a : Addr} {xs : List V} {ds : List D} (hx : Rd G a (.lst xs)) (ha : DqAll B.K G xs ds) : Iter B G (Ite B.K a) (enumD ds) := by
  intro i σ H' G' env l R
  have sx : SqL B.K H' a xs := .inl ((l.trans R.gnd.sub).rd hx)
  have ha' := DqAll.mono l _ _ ha
  have la := Mir.DqAll.len ha
  refine ⟨fun hi => ⟨xs, sx, by unfold enumD at hi; rw [List.length_map, List.length_range] at hi; omega⟩, fun d hd => ?_⟩
  obtain ⟨u, h1, rfl⟩ := enum_at hd
  obtain ⟨x, e1, r1⟩ := Mir.DqAll.at ha' h1
  refine ⟨⟨xs, x, sx, e1⟩, fun z H3 hz => ?_⟩
  obtain ⟨T, x', rfl, hT, rfl, q1⟩ := hz
  have z1 := q1 xs sx
  rw [e1] at z1
  cases z1
  have gT : G' T = none := R.gnd.sub.none hT
  exact ⟨upd G' T (.tup [.int (i : Nat), x]), Le.new gT, R.new hT (fun ps z => by cases z), .tup (.inl (.inl upd_same)) (DqAll.mono (Le.new gT) _ _ (.cons (.int _) (.cons r1 .nil))), Le.new hT, fun c o h => by
    by_cases hc : c = T
    · exact .inr (by rw [hc]; exact hT)
    · rw [upd_ne hc] at h; exact .inl h⟩
theorem iter_enumT {G : Hp} {a : Addr} {xs : List V} {ds : List D} (hx : SqT B.K G a xs) (ha : DqAll B.K G xs ds) : Iter B G (TGo.IteT B.K a xs.length) (enumD ds) := by
  intro i σ H' G' env l R
  have sx : SqT B.K H' a xs := (l.trans R.gnd.sub).st hx
  have ha' := DqAll.mono l _ _ ha
  have la := Mir.DqAll.len ha
  refine ⟨fun hi => ⟨by unfold enumD at hi; rw [List.length_map, List.length_range] at hi; omega, xs, sx, rfl⟩, fun d hd => ?_⟩
  obtain ⟨u, h1, rfl⟩ := enum_at hd
  obtain ⟨x, e1, r1⟩ := Mir.DqAll.at ha' h1
  refine ⟨⟨(List.getElem?_eq_some_iff.mp e1).1, xs, sx, rfl⟩, fun z H3 hz => ?_⟩
  obtain ⟨T, x', rfl, hT, rfl, q1⟩ := hz
  have z1 := q1 xs sx
  rw [e1] at z1
  cases z1
  have gT : G' T = none := R.gnd.sub.none hT
  exact ⟨upd G' T (.tup [.int (i : Nat), x]), Le.new gT, R.new hT (fun ps z => by cases z), .tup (.inl (.inl upd_same)) (DqAll.mono (Le.new gT) _ _ (.cons (.int _) (.cons r1 .nil))), Le.new hT, fun c o h => by
    by_cases hc : c = T
    · exact .inr (by rw [hc]; exact hT)
    · rw [upd_ne hc] at h; exact .inl h⟩
theorem i_enum {ga : M (List D)} {tpos : Pos} {elts : List Expr} {kk : Nat} (hK : B.K = X.K) (ha : PA X [e] (tA B ga)) (hm : X.mg "enumerate" = none) (hg : Gl X "enumerate" := by rfl) (hs : starEach [e] X.env = [(false, eval e X.env)] := by rfl) :
    PI X (.Tuple elts kk tpos) (.Call (.Name "enumerate" p) [e] [] pos) (tI B (mEnum ga)) :=
  PI.imp (TGo.pi_enumA hg hm ha hs) fun σ H R' ⟨G, env, R, gd⟩ => ⟨G, env, R, (good_bnd gd).imp fun ds e1 q xs H1 G1 l1 R1 r1 => by
    rw [← hK]
    cases r1 with
    | nil => exact q.elim
    | cons r1 r2 =>
      cases r2 with
      | cons _ _ => exact q.elim
      | nil =>
        cases r1 with
        | lst hx h1 => exact ⟨_, _, rfl, .inl ⟨.inl (R1.gnd.sub.rd hx), q _ H1 G1 l1 R1 (iter_enumL hx h1)⟩⟩
        | tup hx h1 => exact ⟨_, _, rfl, .inr ⟨R1.gnd.sub.st hx, q _ H1 G1 l1 R1 (iter_enumT hx h1)⟩⟩
        | _ => exact q.elim⟩
/-! ### int(x) of a number or a bool -/
def gInt : List D → Option D
  | [.int i] => some (.int i)
  | [.bool b] => some (.int (bI b))
  | _ => none
/-! ### a, b, c = e1, e2, e3 -/
def put3 (i j l : Nat) (ds : List D) : M Unit := fun e => match ds with
  | [a, b, c] => if decide (i < e.length) = true then (if decide (j < e.length) = true then (if decide (l < e.length) = true then .ok () (((e.set i (some a)).set j (some b)).set l (some c)) else .bad) else .bad) else .bad
  | _ => .bad
def mPar3 (i j l : Nat) (f : M (List D)) : M Fl := bnd f fun ds => bnd (put3 i j l ds) fun _ => ret .nx
end
end Mir
/-! The mirror: tuples of the module, a list beside its own slice, in, reversed. -/
namespace Mir
open PySem PySem.Spec PyProof.Rows L2
/-! ### a name of the module for a tuple of whole numbers -/
section
variable {X : Cx} {B : Bd} {p pos : Pos} {e : Expr} {es : List Expr}
theorem dq_ints {K : PySem.W.Frag} {G : Hp} : ∀ is : List Int, DqAll K G (is.map V.int) (is.map PyData.int)
  | [] => .nil
  | i :: is => .cons (.int i) (dq_ints is)
theorem e_globT {x : Str} {is : List Int} (hK : B.K = X.K) (h : TupG X.K X.mg x is) (hg : Gl X x := by rfl) (hd : (x == ("__debug__" : Str)) = false := by decide) : PE X (.Name x pos) (tE B (ret (.tuple (is.map .int)))) := by
  obtain ⟨a, o, its, n, hm, hl, hc, hs, hz, hv⟩ := h
  exact e_c (pe_glob (v := .ref a) hg hm rfl hd) fun G => .tup (.inr ⟨o, its, n, by rw [hK]; exact hl, hc, hs, hz, hv⟩) (dq_ints is)
end
/-! ### a slot's list is held fast from here on, the slot goes on to be read -/
abbrev Bd.sw (B : Bd) (i : Nat) : Bd := ⟨B.K, B.H0, B.G0, B.mu.set i false, B.io, B.T, B.W⟩
def mSw (i : Nat) (f : M Fl) : M Fl := fun e => if (slotL e i).isSome = true then (match f e with
  | .ok (.rt d) e' => .ok (.rt d) e'
  | _ => .bad) else .bad
section
variable {X : Cx} {B : Bd}
end
end Mir
/-! The mirror: a, b = e1, e2 by way of a tuple (where a comprehension holds one of the names). -/
namespace Mir
open PySem PySem.Spec PyProof.Rows L2
section
variable {X : Cx} {B : Bd}
theorem Mix.laid {σ : L2.St} {H G : Hp} {env : ME} {p : Addr} {o : HO} (hp : H p = none) : ∀ {fl : List Bool} {xs : List V} {ds : List D}, Mix B σ H G env fl xs ds → Mix B σ (upd H p o) G env fl xs ds
  | _, _, _, .nil => .nil
  | _, _, _, .val r m => .val r (Mix.laid hp m)
  | _, _, _, .own w f n m => by
    obtain ⟨ys, es, e, hb, ha⟩ := w.ex
    exact .own ⟨⟨ys, es, e, by rw [upd_ne (ne_of_none hb hp)]; exact hb, ha⟩, w.out⟩ f n (Mix.laid hp m)
theorem s_parG {own : Bool} {i j : Nat} {x y : Str} {a b : Expr} {f1 f2 : Bool} {f : M (List D)} {px py pt pos : Pos} {kt k2 : Nat} {pt2 : Pos} (hc : X.calm = true) (hN : X.N.Nodup) (ha : PA X [a, b] (tAO B [f1, f2] f))
    (hw : swappedStores [.Tuple [.Name x px, .Name y py] kt pt] (.Tuple [a, b] k2 pt2) X.env = pure none)
    (h1 : B.mu.getD i false = f1 := by rfl) (h2 : B.mu.getD j false = f2 := by rfl) (n1 : ∀ p ∈ B.io, p.1 ≠ i := by intro p hp; first | exact absurd hp List.not_mem_nil | (cases hp with | head => (intro z; cases z) | tail _ h => exact absurd h List.not_mem_nil)) (n2 : ∀ p ∈ B.io, p.1 ≠ j := by intro p hp; first | exact absurd hp List.not_mem_nil | (cases hp with | head => (intro z; cases z) | tail _ h => exact absurd h List.not_mem_nil))
    (hi : X.N[i]? = some x := by rfl) (hj : X.N[j]? = some y := by rfl) (hij : i ≠ j := by decide) (hx : Loc X.env.scope x := by first | exact Or.inl rfl | exact Or.inr rfl) (hy : Loc X.env.scope y := by first | exact Or.inl rfl | exact Or.inr rfl)
    (hfx : X.fn x = true ∨ X.env.scope.names.lookup x = some .local := by first | exact .inl rfl | exact .inr rfl) (hfy : X.fn y = true ∨ X.env.scope.names.lookup y = some .local := by first | exact .inl rfl | exact .inr rfl)
    (hs : swapsWithSole [.Tuple [.Name x px, .Name y py] kt pt] (.Tuple [a, b] k2 pt2) pos.line X.env = pure false := by rfl)
    (hn : (assignEach [.Name x px, .Name y py] X.env).length = 2 := by rfl) (hst : (assignEach [.Name x px, .Name y py] X.env).findIdx? (·.1) = none := by rfl) (e1 : (assignEach [.Name x px, .Name y py] X.env).map (·.2) = assign (.Name x px) X.env :: (assignEach [.Name y py] X.env).map (·.2) := by rfl)
    (e2 : (assignEach [.Name y py] X.env).map (·.2) = assign (.Name y py) X.env :: (assignEach [] X.env).map (·.2) := by rfl) (e3 : (assignEach [.Tuple [.Name x px, .Name y py] kt pt] X.env).map (·.2) = [assign (.Tuple [.Name x px, .Name y py] kt pt) X.env] := by rfl) :
    PS X (.Assign [.Tuple [.Name x px, .Name y py] kt pt] (.Tuple [a, b] k2 pt2) pos) (tS B own (mPar i j f)) :=
  PS.imp (ps_asg (pe_tup ha) (pg_tup hc (pgs_cons (pg_name hN hi hx hfx) (pgs_cons (pg_name hN hj hy hfy) pgs_nil e2) e1) hn hst) hs hw e3) fun De σ H ⟨G, env, R, gd⟩ => ⟨G, env, R, (good_bnd gd).imp fun ds e1 k xs H1 G1 l1 R1 r1 => by
    obtain ⟨d1, d2, rfl, z1, z2, k⟩ := good_put2 (good_bnd k)
    have el := r1.len
    match xs, el, r1 with
    | [u, v], _, r1 =>
      refine ⟨by show 2 ≤ sizeLine; decide, fun p hp => ?_⟩
      have R2 := R1.laid (o := .tup [u, v]) hp
      have m2 := Mix.laid (o := .tup [u, v]) hp r1
      refine ⟨p, [u, v], rfl, .inl (.inl upd_same), rfl, u, [v], rfl, v, [], rfl, rfl, ?_⟩
      refine k _ _ G1 l1 (R2.putM m2 hij h1 h2 ?_ ?_ n1 n2)
      · rw [← R1.len]; exact z1
      · rw [← R1.len]; exact z2⟩
end
end Mir
/-! // and math.lcm of numbers of any size: where no one watches the import system there is room for both. -/
namespace Mir
open PySem PySem.Spec PyProof.Rows L2
/-- what is known of the ground -/
structure Sees (P : Program) (base : Heap) : Prop where
  seer : base.NoSeer
  tree : P.given.tree = none
/-- there is room for a long division -/
structure PyR (X : Cx) : Prop where
  s : Sees X.prog X.base
  depth : X.A.depth + 100 < recursionLimit
  stk : ∃ env l, X.stack = env :: l ∧ env.scope.isGenerator = false ∧ env.scope.isCoroutine = false ∧ env.builtins = builtinsNs ∧ env.globals = mainGlobals
theorem PyR.blk {X : Cx} {s : Shared} {H : Hp} {scope : Scope} {cenv : PySem.Env} {fp : List Addr} (h : PyR X) : PyR (X.blk s H scope cenv fp) := ⟨h.s, h.depth, h.stk⟩
section
variable {X : Cx} {B : Bd}
theorem PyR.seerAt (h : PyR X) {pins : List (Addr × Obj)} {σ : L2.St} {H : Hp} {s : Shared} (I : Inv X pins σ H s) : SeerAt (model X.prog X.w) X.A s.heap := by
  obtain ⟨env, l, hl, h1, h2, h3, h4⟩ := h.stk
  exact SeerAt.of (h.s.seer.keeps I.bk) h.s.tree (by rw [I.ok.frames, hl]) h1 h2 h3 h4
theorem PyR.room (h : PyR X) {pins : List (Addr × Obj)} {σ : L2.St} {H : Hp} {s : Shared} (I : Inv X pins σ H s) : PylongRoom (model X.prog X.w) X.A s :=
  PylongRoom.of I.nolimit h.depth (h.seerAt I)
end
theorem pyR_of {P : Program} {w : World} {K : PySem.W.Frag} {mg : Str → Option Value} {base : Heap} {N : List Str} {n : Str} {sc : Scope} {f : Addr} {cd : Value} {A : Around} {outer : List PySem.Env} {s : Shared} {H : Hp} {E : XK} {k : Nat} (hS : Sees P base) (hr : RoomG k (cxOf (L2.CX P w) P w K mg base N n sc f cd A outer s H E).A) (hk : 32 ≤ k) (hg : sc.isGenerator = false) (hc : sc.isCoroutine = false) :
    PyR (cxOf (L2.CX P w) P w K mg base N n sc f cd A outer s H E) :=
  ⟨hS, by have := hr.r.dp; omega, ⟨_, _, rfl, hg, hc, rfl, rfl⟩⟩
section
variable {X : Cx} {B : Bd}
def CDivP (_ j : Int) : Prop := j ≠ 0
theorem op_fdivP (h : PyR X) : OpR X (binaryOp .FloorDiv) (rI CDivP fun i j => .int (i.fdiv j)) := by
  intro pins s σ H x y v u Q I rx ry hh
  obtain ⟨i, j, rfl, rfl, hc, q⟩ := hh
  obtain ⟨t, rfl⟩ := rx
  obtain ⟨t', rfl⟩ := ry
  exact floordiv_int hc ⟨.int (i.fdiv j), H, I.tok _, ⟨_, rfl⟩, q⟩ (.inr (h.room I))
def dDivP : D → D → Option D
  | .int i, .int j => if decide (j ≠ 0) = true then some (.int (i.fdiv j)) else none
  | _, _ => none
theorem opS_divP : OpS B (rI CDivP fun i j => .int (i.fdiv j)) dDivP := by
  intro x y d1 d2 d H G Q gg r1 r2 e q _
  cases r1 <;> cases r2 <;> simp only [dDivP, reduceCtorEq] at e
  rename_i i j
  by_cases h : decide (j ≠ 0) = true
  · rw [if_pos h] at e
    cases e
    exact ⟨_, _, rfl, rfl, (show j ≠ 0 from of_decide_eq_true h), q _ (.int _)⟩
  · rw [if_neg h] at e
    cases e
theorem e_divP {a b : Expr} {pos : Pos} {f1 f2 : M D} (h : PyR X) (ha : PE X a (tE B f1)) (hb : PE X b (tE B f2)) : PE X (.BinOp a .FloorDiv b pos) (tE B (mOp dDivP f1 f2)) := e_op (op_fdivP h) opS_divP ha hb
end
section
variable {M : Model} {A : Around} {E : Value → Shared → Prop} {s : Shared}
theorem roomInv {n : Nat} {Q : Unit → Shared → Prop} (hl : s.heap.NoLimit) (hd : A.depth + Builtin.pylongFrames < recursionLimit) (hS : SeerAt M A s.heap) (u : Nat) (h : Q () s) :
    wpAny M { A with units := u } (Builtin.roomForPylongsInverse n) Q E s := by
  unfold Builtin.roomForPylongsInverse
  by_cases hb : n.log2 / 30 + 1 > 450
  · rw [if_pos hb]
    refine wpAny_bind (hS u s E _ rfl ?_)
    exact wpAny_pylongFrames (A := { A with units := u }) hl hd h
  · rw [if_neg hb]
    exact wpAny_pure h
end
section
variable {prog : Program} {w : World}
/-- math.lcm of two numbers of any size, where there is room -/
theorem lcmIn (a : Int) (t : Tok) (b : Int) (u : Tok) (hsz : ((((Nat.lcm 1 a.natAbs).lcm b.natAbs : Nat) : Int)).natAbs.log2 < bitsLine) :
    MeetsIn prog w (Builtin.«math.lcm» ⟨[.int a t, .int b u], []⟩) (fun A R s => (s.heap.NoLimit ∧ A.depth + Builtin.pylongFrames < recursionLimit ∧ SeerAt (model prog w) A s.heap) ∧ R (.ok (.ret (.int ((((Nat.lcm 1 a.natAbs).lcm b.natAbs : Nat) : Int)) s.toks))) { s with toks := s.toks + 1 }) :=
  .of_wp fun A R s ⟨⟨h1, h2, h3⟩, h⟩ => by
    obtain ⟨hp, g, d, tk, os⟩ := s
    have rm : ∀ {n : Nat} {Q : Unit → Shared → Prop} {E : Value → Shared → Prop}, Q () (Shared.mk hp g d tk os) → wpAny (model prog w) A.in1 (Builtin.roomForPylongsInverse n) Q E (Shared.mk hp g d tk os) := fun h => roomInv (A := A) h1 h2 h3 (A.units + 1) h
    wp_walk using (rm)
    refine wpAny_ite_false ?hz ?_
    case hz => exact decide_eq_false (Nat.not_le.mpr hsz)
    wp_walk
    exact ⟨_, rfl, h⟩
theorem callLcm {a b : Int} {t u : Tok} {A : Around} {s : Shared} {Q E : Value → Shared → Prop} (hsz : ((((Nat.lcm 1 a.natAbs).lcm b.natAbs : Nat) : Int)).natAbs.log2 < bitsLine) (hr : s.heap.NoLimit ∧ A.depth + Builtin.pylongFrames < recursionLimit ∧ SeerAt (model prog w) A s.heap)
    (h : Q (.int ((((Nat.lcm 1 a.natAbs).lcm b.natAbs : Nat) : Int)) s.toks) { s with toks := s.toks + 1 }) : wpAny (model prog w) A (call (.builtin "math.lcm") [.int a t, .int b u]) Q E s := by
  refine wpAny_call (codeAny_call_builtin PySem.W.MGF.plain_lcm PySem.W.MGF.entry_lcm ?_)
  have fin := lcmIn (prog := prog) (w := w) a t b u hsz A (wants Q E) s ⟨hr, h⟩
  have ok := PySem.W.MGF.args_lcm (.int a t) (.int b u)
  unfold argsOk at ok
  simp only [checkBuiltinCall, PySem.W.MGF.kind_lcm]
  split
  · rename_i sg e
    rw [e] at ok
    have ok : Bind.checkArgs "math.lcm" sg ⟨[.int a t, .int b u], []⟩ = pure () := ok
    rw [ok]
    exact wpAny_pure fin
  · exact wpAny_pure fin
end
def gLcmP : List D → Option D
  | [.int i, .int j] => if decide (i.natAbs.log2 + j.natAbs.log2 < 67108864) = true then some (.int ((Nat.lcm i.natAbs j.natAbs : Nat) : Int)) else none
  | _ => none
theorem lcm_logP {i j : Nat} (h : i.log2 + j.log2 < 67108864) : (i.lcm j).log2 < bitsLine := by
  by_cases z : i.lcm j = 0
  · rw [z, Nat.log2_zero]; decide
  · refine (Nat.log2_lt z).mpr ?_
    have h3 : i.lcm j ≤ i * j := Nat.div_le_self _ _
    have h4 : i * j < 2 ^ (i.log2 + 1) * 2 ^ (j.log2 + 1) := Nat.mul_lt_mul'' (lt_pow (Nat.lt_succ_self _)) (lt_pow (Nat.lt_succ_self _))
    rw [← Nat.pow_add] at h4
    exact Nat.lt_of_lt_of_le (Nat.lt_of_le_of_lt h3 h4) (Nat.pow_le_pow_right (by decide) (by show i.log2 + 1 + (j.log2 + 1) ≤ 2 ^ 27; omega))
section
variable {X : Cx} {B : Bd}
abbrev rLcmP (vs : List V) (H : Hp) (Q : VK) : Prop := ∃ a b : Int, vs = [.int a, .int b] ∧ a.natAbs.log2 + b.natAbs.log2 < 67108864 ∧ Q (.int ((Nat.lcm a.natAbs b.natAbs : Nat) : Int)) H
theorem cr_lcmP (hp : PyR X) : CallR X (.builtin "math.lcm") rLcmP := by
  intro pins s σ H vs us Q I r h
  obtain ⟨a, b, rfl, hab, q⟩ := h
  obtain ⟨t, u, rfl⟩ := Vals.int2 r
  have e1 : Nat.lcm 1 a.natAbs = a.natAbs := Nat.lcm_one_left _
  refine callLcm ?_ ⟨I.nolimit, hp.depth, hp.seerAt I⟩ ?_
  · rw [e1]
    exact lcm_logP hab
  · rw [e1]
    exact ⟨.int _, H, I.tok _, ⟨_, rfl⟩, q⟩
theorem caS_lcmP : CaS B rLcmP gLcmP := by
  intro xs ds d H G Q gg r e q qn
  cases r with
  | nil => cases e
  | cons r1 r2 =>
    cases r2 with
    | nil => cases r1 <;> simp only [gLcmP, reduceCtorEq] at e
    | cons r2 r3 =>
      cases r3 with
      | cons _ _ => cases r1 <;> cases r2 <;> simp only [gLcmP, reduceCtorEq] at e
      | nil =>
        cases r1 <;> cases r2 <;> simp only [gLcmP, reduceCtorEq] at e
        rename_i i j
        by_cases h1 : decide (i.natAbs.log2 + j.natAbs.log2 < 67108864) = true
        · rw [if_pos h1] at e
          cases e
          exact ⟨i, j, rfl, of_decide_eq_true h1, q _ (.int _)⟩
        · rw [if_neg h1] at e; cases e
variable {x : Str} {p pos : Pos} {e : Expr} {es : List Expr} {ga : M (List D)}
theorem e_lcmP (hp : PyR X) (hm : X.mg x = some (.builtin "math.lcm")) (ha : PA X (e :: es) (tA B ga)) (hg : Gl X x := by rfl) (hdb : (x == ("__debug__" : Str)) = false := by decide)
    (he : starEach (e :: es) X.env = (false, eval e X.env) :: starEach es X.env := by rfl) (hpl : (backTo pos (starEach es X.env)).any (·.1) = false := by rfl) : PE X (.Call (.Name x p) (e :: es) [] pos) (tE B (mCa gLcmP ga)) :=
  PE.imp (pe_callBfun (cr_lcmP hp) hg hm ha hdb he hpl) (ca_imp caS_lcmP)
end
end Mir
/-! in, not in; tuple(range(..)), list(range(a, b)); for .. in reversed(..). -/
namespace Mir
open PySem PySem.Spec PyProof.Rows L2
def flatD : D → Bool
  | .none => true
  | .bool _ => true
  | .int _ => true
  | .str _ => true
  | _ => false
def inD (x : D) (ds : List D) : Bool := ds.any fun y => PyData.eqv y x
def dIn (neg : Bool) (x d : D) : Option D := match d with
  | .list ds => if flatD x = true then (if ds.all flatD = true then some (.bool (if neg = true then !inD x ds else inD x ds)) else none) else none
  | .tuple ds => if flatD x = true then (if ds.all flatD = true then some (.bool (if neg = true then !inD x ds else inD x ds)) else none) else none
  | _ => none
theorem flat_V {K : PySem.W.Frag} {G : Hp} {x : V} {d : D} (r : Dq K G x d) (h : flatD d = true) : flatV x = true := by
  cases r <;> first | rfl | (cases h)
theorem eqV_D {K : PySem.W.Frag} {G : Hp} {x y : V} {d e : D} (r : Dq K G x d) (s : Dq K G y e) (h : flatD d = true) (g : flatD e = true) : eqV y x = PyData.eqv e d := by
  cases r <;> (try cases h) <;> cases s <;> (try cases g) <;> simp [eqV, PyData.eqv]
theorem flats_V {K : PySem.W.Frag} {G : Hp} : ∀ {xs : List V} {ds : List D}, DqAll K G xs ds → ds.all flatD = true → xs.all flatV = true
  | _, _, .nil, _ => rfl
  | _, _, .cons r t, h => by
    rw [List.all_cons, Bool.and_eq_true] at h ⊢
    exact ⟨flat_V r h.1, flats_V t h.2⟩
theorem inV_D {K : PySem.W.Frag} {G : Hp} {x : V} {d : D} (r : Dq K G x d) (hd : flatD d = true) : ∀ {xs : List V} {ds : List D}, DqAll K G xs ds → ds.all flatD = true → inV x xs = inD d ds
  | _, _, .nil, _ => rfl
  | _, _, .cons s t, h => by
    rw [List.all_cons, Bool.and_eq_true] at h
    have ih := inV_D r hd t h.2
    unfold inV inD at ih ⊢
    rw [List.any_cons, List.any_cons, eqV_D r s hd h.1, ih]
section
variable {X : Cx} {B : Bd} {a b : Expr} {f1 f2 : M D} {pos : Pos}
theorem opS_in (hK : B.K = X.K) (neg : Bool) : OpS B (rIn X.K neg) (dIn neg) := by
  intro x y d1 d2 d H G Q gg r1 r2 e q _
  have key : ∀ {p : Addr} {xs : List V} {ds : List D}, (SqL X.K H p xs ∨ SqT X.K H p xs) → DqAll B.K G xs ds → (if flatD d1 = true then (if ds.all flatD = true then some (PyData.bool (if neg = true then !inD d1 ds else inD d1 ds)) else none) else none) = some d → rIn X.K neg x (.ref p) H Q := fun {p xs ds} hs ha e => by
    by_cases h1 : flatD d1 = true
    · by_cases h2 : ds.all flatD = true
      · rw [if_pos h1, if_pos h2] at e
        cases e
        refine ⟨p, xs, rfl, hs, flat_V r1 h1, flats_V ha h2, ?_⟩
        rw [inV_D r1 h1 ha h2]
        have e2 : (if neg = true then !inD d1 ds else inD d1 ds) = (if neg then !inD d1 ds else inD d1 ds) := rfl
        rw [← e2]
        exact q _ (.bl _)
      · rw [if_pos h1, if_neg h2] at e; cases e
    · rw [if_neg h1] at e; cases e
  cases r2 with
  | lst hs ha => exact key (.inl (.inl (gg.sub.rd hs))) ha e
  | tup hs ha => exact key (.inr (by rw [← hK]; exact gg.sub.st hs)) ha e
  | _ => simp only [dIn, reduceCtorEq] at e
end
/-! ranges as values -/
def rgOkD (i j : Int) : Bool := decide (0 ≤ i) && decide (i ≤ 100000) && decide (0 ≤ j) && decide (j ≤ 100000)
def gRg : List D → Option (List D)
  | [.int j] => if rgOkD 0 j = true then some (rngD 0 (j - 0).toNat) else none
  | [.int i, .int j] => if rgOkD i j = true then some (rngD i (j - i).toNat) else none
  | _ => none
def mTupRg (a : M (List D)) : M D := bnd a fun ds => match gRg ds with
  | some xs => ret (.tuple xs)
  | none => bad
def mLstRg (a : M (List D)) : M D := bnd a fun ds => match gRg ds with
  | some xs => ret (.list xs)
  | none => bad
/-- range(e), range(e1, e2) as an argument, by its mirror -/
def tRgD (B : Bd) (a : M (List D)) : L2.St → Hp → (Int → Int → Hp → Prop) → Prop := fun σ H Q => ∃ G env, Rel B σ H G env ∧ Good B (a env) fun ds env' => ∀ H' G', Le G G' → Rel B σ H' G' env' → ∃ i j, gRg ds = some (rngD i (j - i).toNat) ∧ RgOk i j ∧ Q i j H'
section
variable {X : Cx} {B : Bd} {e e2 : Expr} {f g : M D} {p p2 pos pos2 : Pos}
end
/-! reversed -/
def mRevI (f : M D) : M (List D) := bnd f fun d => opt ((dItems d).map List.reverse)
section
variable {X : Cx} {B : Bd} {e tg : Expr} {f : M D} {p pos : Pos}
end
end Mir
/-! The mirror: a slot that holds a list of its own for some statements, held fast behind them. -/
namespace Mir
open PySem PySem.Spec PyProof.Rows L2
abbrev Bd.ow (B : Bd) (i : Nat) : Bd := ⟨B.K, B.H0, B.G0, B.mu.set i true, B.io, B.T, B.W⟩
def mOw (i : Nat) (f : M Fl) : M Fl := fun e => match f (e.set i none) with
  | .ok .nx e' => if (slotL e' i).isSome = true then .ok .nx e' else .bad
  | _ => .bad
theorem getD_ow_ne {mu : List Bool} {i j : Nat} (h : j ≠ i) : (mu.set i true).getD j false = mu.getD j false := by
  rw [List.getD_eq_getElem?_getD, List.getD_eq_getElem?_getD, List.getElem?_set_ne (Ne.symm h)]
section
variable {X : Cx} {B : Bd}
theorem Rel.ow {σ : L2.St} {H G : Hp} {env : ME} {i : Nat} (R : Rel B σ H G env) (hm : B.mu.getD i false = false) : Rel (B.ow i) σ H G (env.set i none) := by
  have out : ∀ (j : Nat) (d : D), (env.set i none)[j]? = some (some d) → j ≠ i ∧ env[j]? = some (some d) := fun j d hj => by
    by_cases z : j = i
    · subst z
      by_cases hl : j < env.length
      · rw [List.getElem?_set_self hl] at hj; cases hj
      · rw [List.getElem?_eq_none (by rw [List.length_set]; omega)] at hj; cases hj
    · rw [List.getElem?_set_ne (Ne.symm z)] at hj
      exact ⟨z, hj⟩
  have mu : ∀ (j : Nat) (b : Bool), j ≠ i → (B.ow i).mu.getD j false = b → B.mu.getD j false = b := fun j b z h => by
    rw [show (B.ow i).mu = B.mu.set i true from rfl, getD_ow_ne z] at h
    exact h
  refine ⟨⟨R.gnd.sub, R.gnd.g0, R.gnd.fr, R.gnd.nw, R.gnd.nt, R.gnd.tab, R.gnd.keep⟩, by rw [List.length_set]; exact R.len, fun j d hj hmj => ?_, fun j d hj hmj => ?_, fun j k b d e hj hk hmj hmk h1 h2 => ?_, fun q hq => ?_⟩
  · obtain ⟨z, hj⟩ := out j d hj
    exact R.imm j d hj (mu j _ z hmj)
  · obtain ⟨z, hj⟩ := out j d hj
    obtain ⟨b, h1, h2, h4⟩ := R.mt j d hj (mu j _ z hmj)
    exact ⟨b, h1, ⟨h2.ex, h2.out⟩, h4⟩
  · obtain ⟨z1, hj⟩ := out j d hj
    obtain ⟨z2, hk⟩ := out k e hk
    exact R.inj j k b d e hj hk (mu j _ z1 hmj) (mu k _ z2 hmk) h1 h2
  · obtain ⟨h1, h2, d, h5⟩ := R.iok q hq
    have z : q.1 ≠ i := fun z => by rw [z, hm] at h1; cases h1
    refine ⟨?_, h2, d, ?_⟩
    · rw [show (B.ow i).mu = B.mu.set i true from rfl, getD_ow_ne z]
      exact h1
    · rw [List.getElem?_set_ne (Ne.symm z)]
      exact h5
end
end Mir
/-! The mirror: reversed(range(a, b)). -/
namespace Mir
open PySem PySem.Spec PyProof.Rows L2
def mRevRg (a : M (List D)) : M (List D) := bnd a fun ds => match gRg ds with
  | some xs => ret xs.reverse
  | none => bad
section
variable {X : Cx} {B : Bd} {e e2 tg : Expr} {f g : M D} {p p2 pos pos2 : Pos}
end
end Mir
/-! The mirror: a list display times a number; sum, max, min, any of one list. -/
namespace Mir
open PySem PySem.Spec PyProof.Rows L2
section
variable {X : Cx} {B : Bd} {a b e : Expr} {pos p : Pos} {f1 f2 : M D}
/-- a list times a number, a new list -/
def dRepL : D → D → Option D
  | .list xs, .int k => if small xs.length = true then (if decide (k.natAbs ≤ 1000) = true then some (.list (List.replicate k.toNat xs).flatten) else none) else none
  | _, _ => none
def rRepR : R2 := fun x y H Q => ∃ l k xs, x = .ref l ∧ y = .int k ∧ Rd H l (.lst xs) ∧ -(2 ^ 63) ≤ k ∧ k < 2 ^ 63 ∧ xs.length * k.toNat ≤ sizeLine ∧
  ∀ p, H p = none → Q (.ref p) (upd H p (.lst (List.replicate k.toNat xs).flatten))
/-! ### whole numbers of one list -/
def intsD : List D → Option (List Int)
  | [] => some []
  | .int b :: r => (intsD r).map (b :: ·)
  | _ => none
theorem intsD_v {K : PySem.W.Frag} {G : Hp} : ∀ {xs : List V} {ds : List D} {bs : List Int}, DqAll K G xs ds → intsD ds = some bs → xs = bs.map V.int
  | _, _, _, .nil, h => by
    unfold intsD at h
    cases h
    rfl
  | _, _, bs, .cons r t, h => by
    cases r with
    | int b =>
      unfold intsD at h
      obtain ⟨cs, h1, h2⟩ := Option.map_eq_some_iff.mp h
      subst h2
      rw [intsD_v t h1]
      rfl
    | _ => simp only [intsD, reduceCtorEq] at h
def dAny : List D → Option D
  | [.list ds] => (bools ds).map fun bs => .bool (bs.any fun b => b)
  | _ => none
/-- the greatest, the least of some -/
def lMax : List Int → Int
  | [] => 0
  | [i] => i
  | i :: r => if lMax r < i then i else lMax r
def lMin : List Int → Int
  | [] => 0
  | [i] => i
  | i :: r => if i < lMin r then i else lMin r
def dMaxL : List D → Option D
  | [.list ds] => match intsD ds with
    | some (i :: r) => some (.int (lMax (i :: r)))
    | _ => none
  | _ => none
def dMinL : List D → Option D
  | [.list ds] => match intsD ds with
    | some (i :: r) => some (.int (lMin (i :: r)))
    | _ => none
  | _ => none
/-- sum of a list or a tuple of whole numbers -/
def dSum : List D → Option D
  | [d] => match dItems d with
    | some ds => (intsD ds).map fun is => .int is.sum
    | none => none
  | _ => none
def rSumD (K : PySem.W.Frag) : List V → Hp → VK → Prop := fun vs H Q => ∃ (a : Addr) (ns : List Int), vs = [V.ref a] ∧ (SqL K H a (ns.map V.int) ∨ SqT K H a (ns.map V.int)) ∧ Q (.int ns.sum) H
theorem cr_sumD (hc : X.calm = true) : CallR X (.builtin "sum") (rSumD X.K) := by
  intro pins s σ H vs us Q I r h
  obtain ⟨a, ns, rfl, hs, q⟩ := h
  rcases hs with hs | hs
  · exact cr_sum hc pins s σ H _ us Q I r ⟨a, ns, rfl, hs, q⟩
  · obtain ⟨its, rv, hl, _⟩ := I.tuple hs
    rw [Vals.ref1 r]
    have hi := rv.ints
    obtain ⟨xs, e⟩ := hi.allInts.items
    have hn : numsOf (intItems xs).toList = ns := by rw [← e]; exact hi.numsOf
    rw [nums_intItems] at hn
    have hl' : s.heap.IsTuple a its.toArray := hl
    rw [e] at hl'
    refine PySem.W.ktm_sumG (I.ok.hd hc) hl' fun h' tk t' hk => ?_
    rw [preSum_eq, List.take_of_length_le (by simp), hn]
    exact ⟨.int _, H, I.kept hk, ⟨_, rfl⟩, q⟩
theorem caS_sum (hK : B.K = X.K) : CaS B (rSumD X.K) dSum := by
  intro xs ds d H G Q gg r e q _
  rw [← hK]
  cases r with
  | nil => cases e
  | cons r1 r2 =>
    cases r2 with
    | cons _ _ => simp only [dSum, reduceCtorEq] at e
    | nil =>
      cases r1 with
      | lst h hx =>
        simp only [dSum, dItems] at e
        obtain ⟨bs, h1, h2⟩ := Option.map_eq_some_iff.mp e
        subst h2
        have ex := intsD_v hx h1
        subst ex
        exact ⟨_, bs, rfl, .inl (.inl (gg.sub.rd h)), q _ (.int _)⟩
      | tup h hx =>
        simp only [dSum, dItems] at e
        obtain ⟨bs, h1, h2⟩ := Option.map_eq_some_iff.mp e
        subst h2
        have ex := intsD_v hx h1
        subst ex
        exact ⟨_, bs, rfl, .inr (gg.sub.st h), q _ (.int _)⟩
      | _ => simp only [dSum, dItems, reduceCtorEq] at e
end
end Mir
/-! The mirror: a list of lists, each of one's own, whose lists change (slot i, for the statements behind its making). -/
namespace Mir
open PySem PySem.Spec PyProof.Rows L2
/-- data without lists -/
def noL : D → Bool
  | .none => true
  | .bool _ => true
  | .int _ => true
  | .str _ => true
  | .tuple xs => noLs xs
  | _ => false
where noLs : List D → Bool
  | [] => true
  | d :: r => noL d && noLs r
/-- the inner lists as they lie -/
inductive ElAll (K : PySem.W.Frag) (H G : Hp) : List Addr → List (List D) → Prop
  | nil : ElAll K H G [] []
  | cons {c : Addr} {cs : List Addr} {xs : List V} {ds : List D} {dd : List (List D)} : H c = some (.lst xs) → DqAll K G xs ds → ElAll K H G cs dd → ElAll K H G (c :: cs) (ds :: dd)
structure Deep (B : Bd) (σ : L2.St) (H G : Hp) (env : ME) (b : Addr) (cs : List Addr) (dd : List (List D)) : Prop where
  hb : H b = some (.lst (cs.map V.ref))
  el : ElAll B.K H G cs dd
  nd : (b :: cs).Nodup
  out : ∀ a ∈ b :: cs, G a = none ∧ B.H0 a = none
  fr : ∀ a ∈ b :: cs, ∀ (j : Nat) (d : D), env[j]? = some (some d) → B.mu.getD j false = true → σ[j]? ≠ some (some (.ref a))
def deepD (dd : List (List D)) : D := .list (dd.map PyData.list)
structure Rel2 (B : Bd) (i : Nat) (b : Addr) (cs : List Addr) (σ : L2.St) (H G : Hp) (env : ME) : Prop where
  ex : ∃ dd, env[i]? = some (some (deepD dd)) ∧ Deep B σ H G (env.set i none) b cs dd
  rel : Rel B σ H G (env.set i none)
  hs : σ[i]? = some (some (.ref b))
theorem set_none_get {env : ME} {i j : Nat} {d : D} (h : (env.set i none)[j]? = some (some d)) : j ≠ i ∧ env[j]? = some (some d) := by
  by_cases z : j = i
  · subst z
    by_cases hl : j < env.length
    · rw [List.getElem?_set_self hl] at h; cases h
    · rw [List.getElem?_eq_none (by rw [List.length_set]; omega)] at h; cases h
  · rw [List.getElem?_set_ne (Ne.symm z)] at h
    exact ⟨z, h⟩
theorem set_none_ne {env : ME} {i j : Nat} {d : D} (z : j ≠ i) (h : env[j]? = some (some d)) : (env.set i none)[j]? = some (some d) := by
  rw [List.getElem?_set_ne (Ne.symm z)]; exact h
theorem ElAll.at {K : PySem.W.Frag} {H G : Hp} : ∀ {cs : List Addr} {dd : List (List D)} {c : Addr}, ElAll K H G cs dd → c ∈ cs → ∃ xs, H c = some (.lst xs)
  | _, _, c, .cons h _ t, m => by
    rcases List.mem_cons.mp m with rfl | m
    · exact ⟨_, h⟩
    · exact ElAll.at t m
theorem ElAll.len {K : PySem.W.Frag} {H G : Hp} : ∀ {cs : List Addr} {dd : List (List D)}, ElAll K H G cs dd → cs.length = dd.length
  | _, _, .nil => rfl
  | _, _, .cons _ _ t => by rw [List.length_cons, List.length_cons, ElAll.len t]
theorem ElAll.step {K : PySem.W.Frag} {H G H' G' : Hp} : ∀ {cs : List Addr} {dd : List (List D)}, ElAll K H G cs dd → Le G G' → (∀ c ∈ cs, H' c = H c) → ElAll K H' G' cs dd
  | _, _, .nil, _, _ => .nil
  | _, _, .cons h a t, l, k => .cons ((k _ List.mem_cons_self).trans h) (DqAll.mono l _ _ a) (ElAll.step t l fun c hc => k c (List.mem_cons_of_mem _ hc))
theorem ElAll.dq {K : PySem.W.Frag} {H G G1 : Hp} : ∀ {cs : List Addr} {dd : List (List D)}, ElAll K H G cs dd → Le G G1 → (∀ c ∈ cs, G1 c = H c) → DqAll K G1 (cs.map V.ref) (dd.map PyData.list)
  | _, _, .nil, _, _ => .nil
  | _, _, .cons h a t, l, k => .cons (.lst (.inl ((k _ List.mem_cons_self).trans h)) (DqAll.mono l _ _ a)) (ElAll.dq t l fun c hc => k c (List.mem_cons_of_mem _ hc))
theorem ElAll.get {K : PySem.W.Frag} {H G : Hp} : ∀ {cs : List Addr} {dd : List (List D)} {m : Nat} {c : Addr}, ElAll K H G cs dd → cs[m]? = some c → ∃ xs ds, dd[m]? = some ds ∧ H c = some (.lst xs) ∧ DqAll K G xs ds
  | _, _, 0, _, .cons h a _, e => by
    rw [List.getElem?_cons_zero] at e
    cases e
    exact ⟨_, _, rfl, h, a⟩
  | _, _, m + 1, _, .cons _ _ t, e => by
    rw [List.getElem?_cons_succ] at e ⊢
    exact ElAll.get t e
  | _, _, _, _, .nil, e => by simp at e
theorem ElAll.put {K : PySem.W.Frag} {H G : Hp} {ys : List V} {es : List D} {c : Addr} (hy : DqAll K G ys es) : ∀ {cs : List Addr} {dd : List (List D)} {m : Nat}, ElAll K H G cs dd → cs.Nodup → cs[m]? = some c → ElAll K (upd H c (.lst ys)) G cs (dd.set m es)
  | _, _, 0, .cons h a t, n, e => by
    rw [List.getElem?_cons_zero] at e
    cases e
    exact .cons upd_same hy (t.step (Le.refl G) fun c' hc => upd_ne fun z => (List.nodup_cons.mp n).1 (z ▸ hc))
  | _, _, m + 1, .cons h a t, n, e => by
    rw [List.getElem?_cons_succ] at e
    have hm := List.mem_of_getElem? e
    exact .cons ((upd_ne fun z => (List.nodup_cons.mp n).1 (by rw [z]; exact hm)).trans h) a (ElAll.put hy t (List.nodup_cons.mp n).2 e)
  | _, _, _, .nil, _, e => by simp at e
/-! ### frozen for a step, thawed behind it -/
open Classical in
noncomputable def frzG (G H : Hp) (as : List Addr) : Hp := fun a => if a ∈ as then H a else G a
open Classical in
noncomputable def thwG (G : Hp) (as : List Addr) : Hp := fun a => if a ∈ as then none else G a
/-- the slots with lists of their own from env', the others from env -/
def mend (mu : List Bool) (env env' : ME) : ME := (List.range env.length).map fun j => if mu.getD j false = true then env'.getD j none else env.getD j none
def flatMu (mu : List Bool) (env : ME) : Bool := (List.range env.length).all fun j => if mu.getD j false = true then (match env.getD j none with
  | none => true
  | some (.list ds) => noL.noLs ds
  | some _ => false) else true
section
variable {K : PySem.W.Frag} {G G1 : Hp}
mutual
theorem flat_thaw {as : List Addr} (hl : ∀ a ∈ as, ∃ xs, G a = some (.lst xs)) : ∀ (d : D) (x : V), noL d = true → Dq K G x d → Dq K (thwG G as) x d
  | .none, _, _, h => by cases h; exact .non
  | .bool b, _, _, h => by cases h; exact .bl b
  | .int i, _, _, h => by cases h; exact .int i
  | .str s, _, _, h => by cases h; exact .str s
  | .list ds, _, f, h => by simp [noL] at f
  | .tuple ds, _, f, h => by
    have f : noL.noLs ds = true := by simpa [noL] using f
    cases h with
    | @tup a _ _ hs ha =>
      refine .tup ?_ (flat_thawAll hl ds _ f ha)
      have no : ∀ o, G a = some o → (∀ xs, o ≠ .lst xs) → thwG G as a = some o := fun o h hn => by
        by_cases hm : a ∈ as
        · obtain ⟨xs, hx⟩ := hl a hm
          rw [h] at hx
          cases hx
          exact absurd rfl (hn xs)
        · show (if a ∈ as then none else G a) = some o
          rw [if_neg hm]; exact h
      rcases hs with (h | ⟨o, h⟩) | h
      · exact .inl (.inl (no _ h fun xs z => by cases z))
      · exact .inl (.inr ⟨o, no _ h fun xs z => by cases z⟩)
      · exact .inr h
  | .dict _, _, f, h => by simp [noL] at f
theorem flat_thawAll {as : List Addr} (hl : ∀ a ∈ as, ∃ xs, G a = some (.lst xs)) : ∀ (ds : List D) (xs : List V), noL.noLs ds = true → DqAll K G xs ds → DqAll K (thwG G as) xs ds
  | [], _, _, h => by cases h; exact .nil
  | d :: ds, _, f, h => by
    have f : noL d = true ∧ noL.noLs ds = true := by simpa [noL.noLs] using f
    cases h with
    | cons h1 h2 => exact .cons (flat_thaw hl d _ f.1 h1) (flat_thawAll hl ds _ f.2 h2)
end
end
section
variable {B : Bd} {i : Nat} {b : Addr} {cs : List Addr} {σ : L2.St} {H G : Hp} {env : ME}
theorem Deep.lst {dd : List (List D)} (w : Deep B σ H G env b cs dd) : ∀ a ∈ b :: cs, ∃ xs, H a = some (.lst xs) := fun a ha => by
  rcases List.mem_cons.mp ha with rfl | ha
  · exact ⟨_, w.hb⟩
  · exact w.el.at ha
theorem frz_in {a : Addr} {as : List Addr} (h : a ∈ as) : frzG G H as a = H a := by
  unfold frzG; rw [if_pos h]
theorem frz_out {a : Addr} {as : List Addr} (h : a ∉ as) : frzG G H as a = G a := by
  unfold frzG; rw [if_neg h]
theorem Rel2.out (R : Rel2 B i b cs σ H G env) : ∀ a ∈ b :: cs, G a = none ∧ B.H0 a = none := by
  obtain ⟨dd, _, w⟩ := R.ex
  exact w.out
theorem Rel2.leF (R : Rel2 B i b cs σ H G env) : Le G (frzG G H (b :: cs)) := fun a o h => by
  rw [frz_out fun z => by rw [(R.out a z).1] at h; cases h]; exact h
/-- the lists are held fast -/
theorem Rel2.freeze (R : Rel2 B i b cs σ H G env) (hm : B.mu.getD i false = false) : Rel B σ H (frzG G H (b :: cs)) env := by
  obtain ⟨dd, he, w⟩ := R.ex
  have r := R.rel
  have le := R.leF
  have nm : ∀ j, B.mu.getD j false = true → j ≠ i := fun j hj z => by rw [z, hm] at hj; cases hj
  refine ⟨⟨fun a o h => ?_, fun a o h => le a o (r.gnd.g0 a o h), r.gnd.fr, fun a o h => ?_, fun a ps h => ?_, r.gnd.tab, r.gnd.keep⟩, by rw [← r.len, List.length_set], fun j d h hj => ?_, fun j d h hj => ?_, fun j k c d e h h' hj hk h1 h2 => ?_, fun p hp => ?_⟩
  · by_cases ha : a ∈ b :: cs
    · rw [frz_in ha] at h; exact h
    · rw [frz_out ha] at h; exact r.gnd.sub a o h
  · by_cases ha : a ∈ b :: cs
    · exact .inr (w.out a ha).2
    · rw [frz_out ha] at h; exact r.gnd.nw a o h
  · by_cases ha : a ∈ b :: cs
    · rw [frz_in ha] at h
      obtain ⟨xs, hx⟩ := w.lst a ha
      rw [hx] at h; cases h
    · rw [frz_out ha] at h; exact r.gnd.nt a ps h
  · by_cases z : j = i
    · subst z
      rw [he] at h
      cases h
      refine ⟨.ref b, R.hs, .lst (.inl ?_) (w.el.dq le fun c hc => frz_in (List.mem_cons_of_mem _ hc))⟩
      rw [frz_in List.mem_cons_self]; exact w.hb
    · obtain ⟨x, h1, h2⟩ := r.imm j d (set_none_ne z h) hj
      exact ⟨x, h1, Dq.mono le d x h2⟩
  · obtain ⟨c, h1, h2, h3⟩ := r.mt j d (set_none_ne (nm j hj) h) hj
    refine ⟨c, h1, h2.step le rfl ?_, h3⟩
    rw [frz_out fun z => w.fr c z j d (set_none_ne (nm j hj) h) hj h1]; exact h2.out
  · exact r.inj j k c d e (set_none_ne (nm j hj) h) (set_none_ne (nm k hk) h') hj hk h1 h2
  · obtain ⟨h1, h2, d, h3⟩ := r.iok p hp
    exact ⟨h1, h2, d, (set_none_get h3).2⟩
end
/-! ### expressions while the lists may change -/
def tE2 (B : Bd) (i : Nat) (f : M D) : TE := fun σ H Q => ∃ b cs G env, Rel2 B i b cs σ H G env ∧ Good B (f env) fun d env' => ∀ x H' G', Le G G' → Rel2 B i b cs σ H' G' env' → Dq B.K G' x d → Q x H'
def tT2 (B : Bd) (i : Nat) (f : M Bool) : TT := fun σ H Q => ∃ b cs G env, Rel2 B i b cs σ H G env ∧ Good B (f env) fun d env' => ∀ H' G', Le G G' → Rel2 B i b cs σ H' G' env' → Q d H'
def tA2 (B : Bd) (i : Nat) (f : M (List D)) : TA := fun σ H Q => ∃ b cs G env, Rel2 B i b cs σ H G env ∧ Good B (f env) fun ds env' => ∀ xs H' G', Le G G' → Rel2 B i b cs σ H' G' env' → DqAll B.K G' xs ds → Q xs H'
def mThw {α : Type} (mu : List Bool) (fl : α → Bool) (f : M α) : M α := fun env => match f env with
  | .ok d env' => if fl d = true then (if flatMu mu env' = true then .ok d (mend mu env env') else .bad) else .bad
  | _ => .bad
def flB : Bool → Bool := fun _ => true
section
variable {X : Cx} {B : Bd} {i : Nat} {mu : List Bool} {e : Expr} {es : List Expr} {pos : Pos}
end
/-! ### statements -/
def tS2 (B : Bd) (i : Nat) (own : Bool) (f : M Fl) : TS := fun De σ H => ∃ b cs G env, Rel2 B i b cs σ H G env ∧ Good B (f env) fun fl env' => match fl with
  | .nx => ∀ b cs σ' H' G', Le G G' → Rel2 B i b cs σ' H' G' env' → De.nx σ' H'
  | .rt d => if own = true then RtO B env' d De.rt else RtV B env' d De.rt
  | .bk => ∀ b cs σ' H' G', Le G G' → Rel2 B i b cs σ' H' G' env' → De.bk σ' H'
  | .ct => ∀ b cs σ' H' G', Le G G' → Rel2 B i b cs σ' H' G' env' → De.ct σ' H'
section
variable {X : Cx} {B : Bd} {i : Nat} {own : Bool} {st : Stmt} {rest : List Stmt} {f f1 f2 : M Fl} {e : Expr} {pos : Pos} {t : M Bool}
/-- the rest, the lists held fast from here on -/
def mExit (f : M Fl) : M Fl := fun env => match f env with
  | .ok (.rt d) e' => .ok (.rt d) e'
  | _ => .bad
/-- a slot beside gets a value -/
theorem Rel2.set {b : Addr} {cs : List Addr} {σ : L2.St} {H G : Hp} {env : ME} {j : Nat} {x : V} {d : D} (R : Rel2 B i b cs σ H G env) (hm : B.mu.getD j false = false) (hji : j ≠ i) (hd : Dq B.K G x d) (hl : j < σ.length) : Rel2 B i b cs (σ.set j (some x)) H G (env.set j (some d)) := by
  obtain ⟨dd, he, w⟩ := R.ex
  have e : (env.set j (some d)).set i none = (env.set i none).set j (some d) := List.set_comm _ _ hji
  refine ⟨⟨dd, by rw [List.getElem?_set_ne hji]; exact he, ⟨w.hb, w.el, w.nd, w.out, fun a ha k d' h hk hσ => ?_⟩⟩, by rw [e]; exact R.rel.set hm hd hl, by rw [List.getElem?_set_ne hji]; exact R.hs⟩
  have z : k ≠ j := fun z => by rw [z, hm] at hk; cases hk
  rw [e, List.getElem?_set_ne (Ne.symm z)] at h
  rw [List.getElem?_set_ne (Ne.symm z)] at hσ
  exact w.fr a ha k d' h hk hσ
theorem Rel2.len {b : Addr} {cs : List Addr} {σ : L2.St} {H G : Hp} {env : ME} (R : Rel2 B i b cs σ H G env) : env.length = σ.length := by rw [← R.rel.len, List.length_set]
/-! ### loops -/
def Iter2 (B : Bd) (i : Nat) (G : Hp) (J : It) (ds : List D) : Prop := ∀ (n : Nat) (b : Addr) (cs : List Addr) (σ : L2.St) (H' G' : Hp) (env : ME), Le G G' → Rel2 B i b cs σ H' G' env →
  (ds.length ≤ n → J.stop n H') ∧ ∀ d, ds[n]? = some d → J.go n H' ∧ ∀ x H3, J.yld n H' x H3 → H3 = H' ∧ Dq B.K G' x d
def tI2 (B : Bd) (i : Nat) (f : M (List D)) : TI := fun σ H R => ∃ b cs G env, Rel2 B i b cs σ H G env ∧ Good B (f env) fun ds env' => ∀ J H' G', Le G G' → Rel2 B i b cs σ H' G' env' → Iter2 B i G' J ds → R J H'
/-- a tuple -/
def dTup : D → Option (List D)
  | .tuple xs => some xs
  | _ => none
def mItems2 (f : M D) : M (List D) := bnd f fun d => opt (dTup d)
/-! ### targets -/
def tG2 (B : Bd) (i : Nat) (g : D → M Unit) : TG := fun v σ H Q => ∃ b cs G env d, Rel2 B i b cs σ H G env ∧ Dq B.K G v d ∧ Good B (g d env) fun _ env' => ∀ b cs σ' H' G', Le G G' → Rel2 B i b cs σ' H' G' env' → Q σ' H'
def tGs2 (B : Bd) (i : Nat) (g : List D → M Unit) : TGs := fun vs σ H Q => ∃ b cs G env ds, Rel2 B i b cs σ H G env ∧ DqAll B.K G vs ds ∧ Good B (g ds env) fun _ env' => ∀ b cs σ' H' G', Le G G' → Rel2 B i b cs σ' H' G' env' → Q σ' H'
end
end Mir
/-! The mirror: a list of lists of one's own: its making, a store into one of its lists. -/
namespace Mir
open PySem PySem.Spec PyProof.Rows L2
theorem ElAll.app {K : PySem.W.Frag} {H G : Hp} : ∀ {cs cs' : List Addr} {dd dd' : List (List D)}, ElAll K H G cs dd → ElAll K H G cs' dd' → ElAll K H G (cs ++ cs') (dd ++ dd')
  | _, _, _, _, .nil, t => t
  | _, _, _, _, .cons h a r, t => .cons h a (ElAll.app r t)
section
variable {B : Bd} {i : Nat} {b : Addr} {cs : List Addr} {σ : L2.St} {H G : Hp} {env : ME}
/-- a store into list m -/
theorem Rel2.put {m : Nat} {c : Addr} {dd : List (List D)} {ys : List V} {es : List D} (R : Rel2 B i b cs σ H G env) (he : env[i]? = some (some (deepD dd))) (hc : cs[m]? = some c) (hy : DqAll B.K G ys es) : Rel2 B i b cs σ (upd H c (.lst ys)) G (env.set i (some (deepD (dd.set m es)))) := by
  obtain ⟨dd', he', w⟩ := R.ex
  have hd : dd' = dd := by
    have h1 : deepD dd = deepD dd' := Option.some.inj (Option.some.inj (he.symm.trans he'))
    have h2 : dd.map PyData.list = dd'.map PyData.list := PyData.list.inj h1
    exact ((List.map_inj_right (f := PyData.list) (fun a b h => PyData.list.inj h)).mp h2).symm
  subst hd
  have hl : i < env.length := (List.getElem?_eq_some_iff.mp he).1
  have hm := List.mem_of_getElem? hc
  obtain ⟨xs, hx⟩ := w.el.at hm
  have hin : c ∈ b :: cs := List.mem_cons_of_mem _ hm
  obtain ⟨hnb, hnd⟩ := List.nodup_cons.mp w.nd
  have e0 : (env.set i (some (deepD (dd'.set m es)))).set i none = env.set i none := by rw [List.set_set]
  refine ⟨⟨dd'.set m es, List.getElem?_set_self hl, ?_⟩, ?_, R.hs⟩
  · rw [e0]
    exact ⟨(upd_ne fun z => hnb (by rw [z]; exact hm)).trans w.hb, w.el.put hy hnd hc, w.nd, w.out, w.fr⟩
  · rw [e0]
    exact R.rel.other hx (w.out c hin).1 (w.out c hin).2 (w.fr c hin)
/-- a slot without a value may be anything -/
theorem Rel.any {x : Option V} (R : Rel B σ H G (env.set i none)) (hm : B.mu.getD i false = false) : Rel B (σ.set i x) H G (env.set i none) := by
  have nm : ∀ j, B.mu.getD j false = true → j ≠ i := fun j hj z => by rw [z, hm] at hj; cases hj
  refine ⟨R.gnd, by rw [R.len, List.length_set], fun j d h hj => ?_, fun j d h hj => ?_, fun j k c d e h h' hj hk h1 h2 => ?_, fun p hp => ?_⟩
  · rw [List.getElem?_set_ne (Ne.symm (set_none_get h).1)]; exact R.imm j d h hj
  · rw [List.getElem?_set_ne (Ne.symm (set_none_get h).1)]; exact R.mt j d h hj
  · rw [List.getElem?_set_ne (Ne.symm (set_none_get h).1)] at h1
    rw [List.getElem?_set_ne (Ne.symm (set_none_get h').1)] at h2
    exact R.inj j k c d e h h' hj hk h1 h2
  · obtain ⟨h1, h2, d, h3⟩ := R.iok p hp
    exact ⟨h1, by rw [List.getElem?_set_ne (Ne.symm (nm _ h1))]; exact h2, d, h3⟩
end
/-! ### its making -/
/-- a new list of new lists -/
def tOD (B : Bd) (f : M D) : TE := fun σ H Q => ∃ G env, Rel B σ H G env ∧ Good B (f env) fun d env' => ∀ b cs dd H' G', Le G G' → Rel B σ H' G' env' → d = deepD dd → Deep B σ H' G' env' b cs dd → Q (.ref b) H'
def cO (B : Bd) (el : M D) : TE := fun σ H Q => ∃ H0 G0 io, tO (B.re H0 G0 io) el σ H Q
section
variable {X : Cx} {B : Bd}
/-! ### the statement that makes it, what follows it -/
def tSE (B : Bd) (i : Nat) (g : M D) : TS := fun De σ H => ∃ G env, Rel B σ H G env ∧ Good B (g env) fun d env' => i < env'.length ∧ ∀ b cs σ' H' G', Le G G' → Rel2 B i b cs σ' H' G' (env'.set i (some d)) → De.nx σ' H'
/-! ### x[a][b] = .. -/
def dIxN (n : Nat) : D → Option Nat
  | .int p => ixN n p
  | _ => none
def dPutIn (rows : List D) (m : Nat) (kb v : D) : Option (List D) := match rows[m]? with
  | some (.list row) => (dPut row kb v).map fun row' => rows.set m (.list row')
  | _ => none
def gPut2 (i : Nat) (fa fb : M D) : D → M Unit := fun v => bnd fa fun ka => withS i fun rows => bnd (opt (dIxN rows.length ka)) fun m => bnd fb fun kb => withS i fun rows => bnd (opt (dPutIn rows m kb v)) fun rows' => putS i rows'
theorem Rel2.data {i : Nat} {b : Addr} {cs : List Addr} {σ : L2.St} {H G : Hp} {env : ME} {rows : List D} (R : Rel2 B i b cs σ H G env) (h : slotL env i = some rows) : ∃ dd, rows = dd.map PyData.list ∧ cs.length = dd.length ∧ Deep B σ H G (env.set i none) b cs dd := by
  obtain ⟨dd, he, w⟩ := R.ex
  have h1 := slotL_at h
  rw [he] at h1
  have h2 : dd.map PyData.list = rows := PyData.list.inj (Option.some.inj (Option.some.inj h1))
  exact ⟨dd, h2.symm, w.el.len, w⟩
end
end Mir
/-! zip of three things, each a list or a tuple. -/
namespace TGo
open PySem PySem.Spec PyProof.Rows L2
def Itz3 (k l r : Bool) (K : PySem.W.Frag) (a b c : Addr) (n : Nat) : It :=
  ⟨fun i H => i < n ∧ ∃ xs ys zs : List V, SqK k K H a xs ∧ SqK l K H b ys ∧ SqK r K H c zs ∧ min (min xs.length ys.length) zs.length = n,
    fun i H v H' => ∃ T x y z, v = .ref T ∧ H T = none ∧ H' = upd H T (.tup [x, y, z]) ∧ (∀ xs, SqK k K H a xs → xs[i]? = some x) ∧ (∀ ys, SqK l K H b ys → ys[i]? = some y) ∧ ∀ zs, SqK r K H c zs → zs[i]? = some z,
    fun i H => n ≤ i ∧ ∃ xs ys zs : List V, SqK k K H a xs ∧ SqK l K H b ys ∧ SqK r K H c zs ∧ min (min xs.length ys.length) zs.length = n⟩
def iZip3 (K : PySem.W.Frag) (ta : TA) : TI := fun σ H R => ta σ H fun vs H1 => ∃ (k l r : Bool) (a b c : Addr) (xs ys zs : List V), vs = [.ref a, .ref b, .ref c] ∧ SqK k K H1 a xs ∧ SqK l K H1 b ys ∧ SqK r K H1 c zs ∧ R (Itz3 k l r K a b c (min (min xs.length ys.length) zs.length)) H1
end TGo
/-! The mirror: zip of three. -/
namespace Mir
open PySem PySem.Spec PyProof.Rows L2
def zip3D (xs ys zs : List D) : List D := ((xs.zip ys).zip zs).map fun p => .tuple [p.1.1, p.1.2, p.2]
def mZip3 (a : M (List D)) : M (List D) := bnd a fun ds => match ds with
  | [x, y, z] => (match dItems x, dItems y, dItems z with
    | some xs, some ys, some zs => ret (zip3D xs ys zs)
    | _, _, _ => bad)
  | _ => bad
section
variable {X : Cx} {B : Bd} {a b c : Expr} {p pos : Pos}
end
end Mir
/-! The mirror: is True, is False. -/
namespace Mir
open PySem PySem.Spec PyProof.Rows L2
def isB (c : Bool) : D → Bool
  | .bool b => b == c
  | _ => false
def dIsB : D → D → Option D := fun d e => match e with
  | .bool c => some (.bool (isB c d))
  | _ => none
def vB (c : Bool) : V → Bool
  | .bl b => b == c
  | _ => false
def okV : V → Bool
  | .non => true
  | .bl _ => true
  | .int _ => true
  | .str _ => true
  | .ref _ => true
  | _ => false
section
variable {X : Cx} {B : Bd}
def rIsBv : R2 := fun x y H Q => okV x = true ∧ ∃ c, y = .bl c ∧ Q (.bl (vB c x)) H
end
end Mir
/-! The mirror: three names at once, the third one gets a list of its own. -/
namespace Mir
open PySem PySem.Spec PyProof.Rows L2
section
variable {X : Cx} {B : Bd}
theorem Fresh.set {σ : L2.St} {env : ME} {i : Nat} {x : V} {d : D} {b : Addr} (fr : Fresh B σ env b) (hm : B.mu.getD i false = false) : Fresh B (σ.set i (some x)) (env.set i (some d)) b := ⟨fr.h0, fun k d h hk z => by
  have hki : k ≠ i := fun z => by rw [z, hm] at hk; cases hk
  rw [List.getElem?_set_ne (Ne.symm hki)] at h z
  exact fr.no k d h hk z⟩
end
end Mir
/-! What a mirror does, step by step: `Fine (m e) Q` (Mir6), and `ROk r Q` for a def's mirror. -/
namespace Mir
open PySem L2
/-- a def's mirror ends well (a structure: nothing unfolds it by itself) -/
structure ROk (r : Rs) (Q : D → Option D → Prop) : Prop where
  ex : ∃ d o, r = .ok d o ∧ Q d o
theorem ROk.imp {r : Rs} {Q Q' : D → Option D → Prop} (h : ROk r Q) (i : ∀ d o, Q d o → Q' d o) : ROk r Q' := by
  obtain ⟨d, o, e, q⟩ := h.ex
  exact ⟨d, o, e, i d o q⟩
theorem ROk.of_eq {r : Rs} {Q : D → Option D → Prop} {d : D} {o : Option D} (h : r = .ok d o) (q : Q d o) : ROk r Q := ⟨d, o, h, q⟩
theorem ROk.eq {r : Rs} {d : D} {o : Option D} (h : ROk r fun d' o' => d' = d ∧ o' = o) : r = .ok d o := by
  obtain ⟨_, _, e, rfl, rfl⟩ := h.ex
  exact e
/-- a step ends well -/
structure Fine {α : Type} (r : Res α) (k : α → ME → Prop) : Prop where
  ex : ∃ a e, r = .ok a e ∧ k a e
/-- where a body leads, as its def's end -/
def FlQ (io own : Bool) (Q : D → Option D → Prop) (fl : Fl) (e : ME) : Prop := match fl with
  | .rt d => Q d (if io = true then e.getD 0 none else none)
  | .nx => own = false ∧ Q .none (if io = true then e.getD 0 none else none)
  | _ => False
theorem ROk.mDef {n N : Nat} {io own : Bool} {body : M Fl} {ds : List D} {Q : D → Option D → Prop} {env : ME} (hl : ds.length = n) (he : ds.map some ++ List.replicate (N - ds.length) none = env) (h : Fine (body env) (FlQ io own Q)) : ROk (mDef n N io own body ds) Q := by
  unfold Mir.mDef
  rw [if_pos (by simpa using hl), he]
  obtain ⟨fl, e, hb, h⟩ := h.ex
  rw [hb]
  cases fl with
  | rt d => exact ⟨_, _, rfl, h⟩
  | nx =>
    obtain ⟨h1, h2⟩ := h
    subst h1
    exact ⟨_, _, rfl, h2⟩
  | bk => exact h.elim
  | ct => exact h.elim
namespace Fine
variable {α β : Type} {Q : α → ME → Prop} {e : ME}
theorem imp {r : Res α} {Q Q' : α → ME → Prop} (h : Fine r Q) (i : ∀ a e, Q a e → Q' a e) : Fine r Q' := by
  obtain ⟨a, e, h1, q⟩ := h.ex
  exact ⟨a, e, h1, i a e q⟩
theorem of_eq {r : Res α} {a : α} (h : r = .ok a e) (q : Q a e) : Fine r Q := ⟨a, e, h, q⟩
theorem eq {r : Res α} {a : α} (h : Fine r fun a' e' => a' = a ∧ e' = e) : r = .ok a e := by
  obtain ⟨_, _, h1, rfl, rfl⟩ := h.ex
  exact h1
theorem ret {a : α} (q : Q a e) : Fine (Mir.ret a e) Q := ⟨a, e, rfl, q⟩
theorem bnd {m : M α} {f : α → M β} {Q : β → ME → Prop} (h : Fine (m e) fun a e' => Fine (f a e') Q) : Fine (Mir.bnd m f e) Q := by
  obtain ⟨a, e1, h1, h2⟩ := h.ex
  obtain ⟨b, e2, h3, q⟩ := h2.ex
  refine ⟨b, e2, ?_, q⟩
  unfold Mir.bnd
  rw [h1]
  exact h3
theorem bnd_inv {m : M α} {f : α → M β} {Q : β → ME → Prop} (h : Fine (Mir.bnd m f e) Q) : Fine (m e) fun a e' => Fine (f a e') Q := by
  obtain ⟨b, e2, h2, q⟩ := h.ex
  unfold Mir.bnd at h2
  cases hm : m e with
  | ok a e' => rw [hm] at h2; exact ⟨a, e', rfl, b, e2, h2, q⟩
  | exc _ _ => rw [hm] at h2; cases h2
  | bad => rw [hm] at h2; cases h2
theorem ret_inv {a : α} (h : Fine (Mir.ret a e) Q) : Q a e := by
  obtain ⟨_, _, h1, q⟩ := h.ex
  cases h1
  exact q
theorem opt {o : Option α} {a : α} (h : o = some a) (q : Q a e) : Fine (Mir.opt o e) Q := by rw [h]; exact ⟨a, e, rfl, q⟩
variable {Q : D → ME → Prop}
theorem var {i : Nat} {d : D} (h : e[i]? = some (some d)) (q : Q d e) : Fine (mVar i e) Q := by
  unfold mVar
  rw [h]
  exact ⟨_, _, rfl, q⟩
theorem neg {f : M D} (h : Fine (f e) fun d e1 => ∃ i, d = .int i ∧ Q (.int (-i)) e1) : Fine (mNeg f e) Q :=
  bnd (h.imp fun d e1 ⟨i, hd, q⟩ => by rw [hd]; exact ret q)
theorem op {g : D → D → Option D} {a b : M D} (h : Fine (a e) fun x e1 => Fine (b e1) fun y e2 => ∃ z, g x y = some z ∧ Q z e2) : Fine (mOp g a b e) Q :=
  bnd (h.imp fun x e1 h1 => bnd (h1.imp fun y e2 ⟨z, h2, q⟩ => opt h2 q))
theorem ca {g : List D → Option D} {a : M (List D)} (h : Fine (a e) fun xs e1 => ∃ z, g xs = some z ∧ Q z e1) : Fine (mCa g a e) Q :=
  bnd (h.imp fun x e1 ⟨z, h2, q⟩ => opt h2 q)
theorem tup {g : M (List D)} (h : Fine (g e) fun ds e1 => fits ds.length = true ∧ Q (.tuple ds) e1) : Fine (mTup g e) Q :=
  bnd (h.imp fun ds e1 ⟨h1, q⟩ => by rw [if_pos h1]; exact ret q)
theorem lst {g : M (List D)} (h : Fine (g e) fun ds e1 => fits ds.length = true ∧ Q (.list ds) e1) : Fine (mLst g e) Q :=
  bnd (h.imp fun ds e1 ⟨h1, q⟩ => by rw [if_pos h1]; exact ret q)
theorem isi {T : String} {f : M D} (h : Fine (f e) fun d e1 => Q (.bool (dIsi T d)) e1) : Fine (mIsi T f e) Q := bnd (h.imp fun _ _ q => ret q)
theorem andV {f g : M D} (h : Fine (f e) fun d e1 => ∃ b, d = .bool b ∧ ((b = true → Fine (g e1) Q) ∧ (b = false → Q (.bool false) e1))) : Fine (mAndV f g e) Q :=
  bnd (bnd (h.imp fun d e1 ⟨b, hd, h1, h2⟩ => by
    subst hd
    refine opt (a := b) rfl ?_
    cases b with
    | true => exact h1 rfl
    | false => exact ret (h2 rfl)))
theorem orV {f g : M D} (h : Fine (f e) fun d e1 => ∃ b, d = .bool b ∧ ((b = true → Q (.bool true) e1) ∧ (b = false → Fine (g e1) Q))) : Fine (mOrV f g e) Q :=
  bnd (bnd (h.imp fun d e1 ⟨b, hd, h1, h2⟩ => by
    subst hd
    refine opt (a := b) rfl ?_
    cases b with
    | true => exact ret (h1 rfl)
    | false => exact h2 rfl))
theorem notV {f : M D} (h : Fine (f e) fun d e1 => ∃ b, dTruth d = some b ∧ Q (.bool (!b)) e1) : Fine (mNotV f e) Q :=
  bnd (h.imp fun d e1 ⟨b, hd, q⟩ => bnd (opt hd (ret q)))
theorem chain {g g' : D → D → Option D} {a b c : M D} (h : Fine (a e) fun x e1 => Fine (b e1) fun y e2 => ∃ k, g x y = some (.bool k) ∧ ((k = true → Fine (c e2) fun z e3 => ∃ w, g' y z = some w ∧ Q w e3) ∧ (k = false → Q (.bool false) e2))) : Fine (mChain g g' a b c e) Q :=
  bnd (h.imp fun x e1 h1 => bnd (h1.imp fun y e2 ⟨k, h2, h3, h4⟩ => bnd (opt h2 (by
    cases k with
    | true => exact bnd ((h3 rfl).imp fun z e3 ⟨w, h5, q⟩ => opt h5 q)
    | false => exact ret (h4 rfl)))))
theorem part_none {Q : Option Int → ME → Prop} (q : Q none e) : Fine (mPart none e) Q := ret q
theorem part_some {f : M D} {Q : Option Int → ME → Prop} (h : Fine (f e) fun d e1 => ∃ i, d = .int i ∧ Q (some i) e1) : Fine (mPart (some f) e) Q :=
  bnd (h.imp fun d e1 ⟨i, hd, q⟩ => by rw [hd]; exact ret q)
theorem sl {f : M D} {lo hi : M (Option Int)} (h : Fine (f e) fun d e1 => Fine (lo e1) fun l e2 => Fine (hi e2) fun k e3 => ∃ z, dSl l k d = some z ∧ Q z e3) : Fine (mSl f lo hi e) Q :=
  bnd (h.imp fun d e1 h1 => bnd (h1.imp fun l e2 h2 => bnd (h2.imp fun k e3 ⟨z, h3, q⟩ => opt h3 q)))
theorem rev {f : M D} (h : Fine (f e) fun d e1 => ∃ xs, d = .tuple xs ∧ Q (.tuple xs.reverse) e1) : Fine (mRev f e) Q :=
  bnd (h.imp fun d e1 ⟨i, hd, q⟩ => by rw [hd]; exact ret q)
theorem repr {f : M D} (h : Fine (f e) fun d e1 => showOk d = true ∧ Q (.str (PyData.shown d)) e1) : Fine (mRepr f e) Q :=
  bnd (h.imp fun d e1 ⟨h1, q⟩ => by rw [if_pos h1]; exact ret q)
theorem listRg {f : M D} (h : Fine (f e) fun d e1 => ∃ n : Nat, d = .int n ∧ n ≤ 100000 ∧ Q (.list (rngD 0 n)) e1) : Fine (mListRg f e) Q :=
  bnd (h.imp fun d e1 ⟨n, hd, h1, q⟩ => by
    subst hd
    dsimp only
    rw [if_pos (decide_eq_true (by omega)), if_pos (decide_eq_true (by omega))]
    exact ret q)
/-! calls -/
theorem call {m : List D → Rs} {a : M (List D)} (h : Fine (a e) fun ds e1 => ROk (m ds) fun d _ => Q d e1) : Fine (mCall m a e) Q :=
  bnd (h.imp fun ds e1 h1 => by
    obtain ⟨d, o, h2, q⟩ := h1.ex
    rw [h2]
    exact ret q)
theorem callKW {perm : List Nat} {m : List D → Rs} {a : M (List D)} (h : Fine (a e) fun ds e1 => ds.length = perm.length ∧ ROk (m (pick perm ds)) fun d _ => Q d e1) : Fine (mCallKW perm m a e) Q :=
  bnd (h.imp fun ds e1 ⟨hl, h1⟩ => by
    obtain ⟨d, o, h2, q⟩ := h1.ex
    rw [if_pos (decide_eq_true hl), h2]
    exact ret q)
theorem callT {m : List D → Rs} {a : M D} (h : Fine (a e) fun d0 e1 => ROk (m [d0]) fun d _ => Q d e1) : Fine (mCallT m a e) Q :=
  bnd (h.imp fun ds e1 h1 => by
    obtain ⟨d, o, h2, q⟩ := h1.ex
    rw [h2]
    exact ret q)
theorem callI {i : Nat} {m : List D → Rs} {a : M (List D)} {w : D} (hw : e[i]? = some (some w)) (h : Fine (a e) fun ds e1 => ∃ d0, e1[i]? = some (some d0) ∧ ROk (m (d0 :: ds)) fun d o => ∃ d1, o = some d1 ∧ Q d (e1.set i (some d1))) : Fine (mCallI i m a e) Q := by
  unfold mCallI
  simp only [hw]
  refine bnd (h.imp fun ds e1 ⟨d0, h0, h1⟩ => ?_)
  obtain ⟨d, o, h2, d1, rfl, q⟩ := h1.ex
  simp only [h0, h2]
  exact ⟨_, _, rfl, q⟩
/-! slots with lists -/
theorem slotL_of {i : Nat} {ds : List D} (h : e[i]? = some (some (.list ds))) : slotL e i = some ds := by unfold slotL; rw [h]
theorem atS {i : Nat} {f : M α} {Q : α → ME → Prop} {ds : List D} (h : e[i]? = some (some (.list ds))) (q : Fine (f e) Q) : Fine (Mir.atS i f e) Q := by
  unfold Mir.atS
  rw [slotL_of h]
  exact q
theorem withS {i : Nat} {f : List D → M α} {Q : α → ME → Prop} {ds : List D} (h : e[i]? = some (some (.list ds))) (q : Fine (f ds e) Q) : Fine (Mir.withS i f e) Q := by
  unfold Mir.withS
  rw [slotL_of h]
  exact q
theorem ixS {i : Nat} {f : M D} {ds : List D} (h : e[i]? = some (some (.list ds))) (q : Fine (f e) fun k e1 => ∃ es, e1[i]? = some (some (.list es)) ∧ ∃ z, dIx (.list es) k = some z ∧ Q z e1) : Fine (mIxS i f e) Q :=
  atS h (bnd (q.imp fun k e1 ⟨es, h1, z, h2, q⟩ => withS h1 (opt h2 q)))
theorem lenS {i : Nat} {ds : List D} (h : e[i]? = some (some (.list ds))) (q : Q (.int ds.length) e) : Fine (mLenS i e) Q := withS h (ret q)
theorem tupS {i : Nat} {ds : List D} (h : e[i]? = some (some (.list ds))) (q : Q (.tuple ds) e) : Fine (mTupS i e) Q := withS h (ret q)
theorem frz {i : Nat} {ds : List D} (h : e[i]? = some (some (.list ds))) (q : Q (.list ds) (e.set i none)) : Fine (mFrz i e) Q := withS h ⟨_, _, rfl, q⟩
theorem app {i : Nat} {f : M D} {ds : List D} {Q : Fl → ME → Prop} (h : e[i]? = some (some (.list ds))) (q : Fine (f e) fun d e1 => ∃ es, e1[i]? = some (some (.list es)) ∧ fits es.length = true ∧ Q .nx (e1.set i (some (.list (es ++ [d]))))) : Fine (mApp i f e) Q :=
  atS h (bnd (q.imp fun d e1 ⟨es, h1, h2, q⟩ => withS h1 (by rw [if_pos h2]; exact bnd ⟨_, _, rfl, ret q⟩)))
theorem put {i : Nat} {f : M D} {d : D} {ds : List D} {Q : Unit → ME → Prop} (h : e[i]? = some (some (.list ds))) (q : Fine (f e) fun k e1 => ∃ es, e1[i]? = some (some (.list es)) ∧ ∃ es', dPut es k d = some es' ∧ Q () (e1.set i (some (.list es')))) : Fine (gPut i f d e) Q :=
  atS h (bnd (q.imp fun d e1 ⟨es, h1, es', h2, q⟩ => withS h1 (bnd (opt h2 ⟨_, _, rfl, q⟩))))
end Fine
namespace Fine
variable {Q : List D → ME → Prop} {e : ME}
theorem cons {f : M D} {g : M (List D)} (h : Fine (f e) fun d e1 => Fine (g e1) fun ds e2 => Q (d :: ds) e2) : Fine (mCons f g e) Q := bnd (h.imp fun d e1 h1 => bnd (h1.imp fun _ _ q => ret q))
theorem consO {f : M D} {g : M (List D)} (h : Fine (f e) fun d e1 => Fine (g e1) fun ds e2 => Q (d :: ds) e2) : Fine (mConsO f g e) Q := bnd (h.imp fun d e1 h1 => bnd (by
  unfold fineM
  obtain ⟨a, e2, h2, q⟩ := h1.ex
  rw [h2]
  exact ⟨_, _, rfl, ret q⟩))
theorem items {f : M D} (h : Fine (f e) fun d e1 => ∃ xs, dItems d = some xs ∧ Q xs e1) : Fine (mItems f e) Q := bnd (h.imp fun d e1 ⟨xs, h1, q⟩ => opt h1 q)
theorem range1 {a : M (List D)} (h : Fine (a e) fun ds e1 => ∃ n : Nat, ds = [.int n] ∧ n < 2 ^ 62 ∧ Q (rngD 0 n) e1) : Fine (mRange1 a e) Q :=
  bnd (h.imp fun ds e1 ⟨n, hd, h1, q⟩ => opt (a := rngD 0 n) (by
    subst hd
    unfold gRange1 near
    dsimp only
    rw [if_pos (by rw [Bool.and_eq_true]; exact ⟨decide_eq_true (by omega), decide_eq_true (by omega)⟩)]
    rfl) q)
theorem range2 {a : M (List D)} (h : Fine (a e) fun ds e1 => ∃ i j : Int, ds = [.int i, .int j] ∧ near i = true ∧ near j = true ∧ Q (rngD i (j - i).toNat) e1) : Fine (mRange2 a e) Q :=
  bnd (h.imp fun ds e1 ⟨i, j, hd, h1, h2, q⟩ => opt (a := rngD i (j - i).toNat) (by
    subst hd
    unfold gRange2
    dsimp only
    rw [if_pos h1, if_pos h2]) q)
theorem zipT {a : M (List D)} (h : Fine (a e) fun ds e1 => ∃ xs ys, ds = [.tuple xs, .tuple ys] ∧ Q ((xs.zip ys).map fun p => .tuple [p.1, p.2]) e1) : Fine (mZip a e) Q :=
  bnd (h.imp fun ds e1 ⟨xs, ys, hd, q⟩ => by subst hd; exact ret q)
theorem zipL {a : M (List D)} (h : Fine (a e) fun ds e1 => ∃ xs ys, ds = [.list xs, .list ys] ∧ Q ((xs.zip ys).map fun p => .tuple [p.1, p.2]) e1) : Fine (mZip a e) Q :=
  bnd (h.imp fun ds e1 ⟨xs, ys, hd, q⟩ => by subst hd; exact ret q)
end Fine
namespace Fine
variable {Q : Bool → ME → Prop} {e : ME}
theorem truth {f : M D} (h : Fine (f e) fun d e1 => ∃ b, dTruth d = some b ∧ Q b e1) : Fine (mTruth f e) Q := bnd (h.imp fun d e1 ⟨b, h1, q⟩ => opt h1 q)
theorem mb {f : M D} (h : Fine (f e) fun d e1 => ∃ b, d = .bool b ∧ Q b e1) : Fine (mB f e) Q := bnd (h.imp fun d e1 ⟨b, h1, q⟩ => opt (a := b) (by rw [h1]; rfl) q)
theorem and {a b : M Bool} (h : Fine (a e) fun k e1 => (k = true → Fine (b e1) Q) ∧ (k = false → Q false e1)) : Fine (mAnd a b e) Q := bnd (h.imp fun k e1 ⟨h1, h2⟩ => by
  cases k with
  | true => exact h1 rfl
  | false => exact ret (h2 rfl))
theorem or {a b : M Bool} (h : Fine (a e) fun k e1 => (k = true → Q true e1) ∧ (k = false → Fine (b e1) Q)) : Fine (mOr a b e) Q := bnd (h.imp fun k e1 ⟨h1, h2⟩ => by
  cases k with
  | true => exact ret (h1 rfl)
  | false => exact h2 rfl)
theorem not {a : M Bool} (h : Fine (a e) fun k e1 => Q (!k) e1) : Fine (mNot a e) Q := bnd (h.imp fun _ _ q => ret q)
theorem yes (q : Q true e) : Fine (mYes e) Q := ret q
end Fine
namespace Fine
variable {α : Type} {e : ME}
theorem ite {c : M Bool} {a b : M α} {Q : α → ME → Prop} (h : Fine (c e) fun k e1 => (k = true → Fine (a e1) Q) ∧ (k = false → Fine (b e1) Q)) : Fine (mIf c a b e) Q := bnd (h.imp fun k e1 ⟨h1, h2⟩ => by
  cases k with
  | true => exact h1 rfl
  | false => exact h2 rfl)
variable {Q : Fl → ME → Prop}
theorem seq {a b : M Fl} (h : Fine (a e) fun fl e1 => (fl = .nx ∧ Fine (b e1) Q) ∨ (fl ≠ .nx ∧ Q fl e1)) : Fine (mSeq a b e) Q := bnd (h.imp fun fl e1 h1 => by
  cases fl with
  | nx =>
    rcases h1 with ⟨_, h1⟩ | ⟨h1, _⟩
    · exact h1
    · exact absurd rfl h1
  | rt d =>
    rcases h1 with ⟨h1, _⟩ | ⟨_, h1⟩
    · cases h1
    · exact ret h1
  | bk =>
    rcases h1 with ⟨h1, _⟩ | ⟨_, h1⟩
    · cases h1
    · exact ret h1
  | ct =>
    rcases h1 with ⟨h1, _⟩ | ⟨_, h1⟩
    · cases h1
    · exact ret h1)
/-- a statement goes on -/
theorem seqN {a b : M Fl} (h : Fine (a e) fun fl e1 => fl = .nx ∧ Fine (b e1) Q) : Fine (mSeq a b e) Q := seq (h.imp fun _ _ h => .inl h)
/-- a statement leaves the def -/
theorem nx (q : Q .nx e) : Fine (mNx e) Q := ret q
theorem mret {f : M D} (h : Fine (f e) fun d e1 => Q (.rt d) e1) : Fine (mRet f e) Q := bnd (h.imp fun _ _ q => ret q)
theorem drop {f : M D} (h : Fine (f e) fun _ e1 => Q .nx e1) : Fine (mDrop f e) Q := bnd (h.imp fun _ _ q => ret q)
theorem setS {i : Nat} {d : D} {Q : Unit → ME → Prop} (h : i < e.length) (q : Q () (e.set i (some d))) : Fine (Mir.setS i d e) Q := by
  unfold Mir.setS
  rw [if_pos (decide_eq_true h)]
  exact ⟨_, _, rfl, q⟩
theorem set {i : Nat} {f : M D} (h : Fine (f e) fun d e1 => i < e1.length ∧ Q .nx (e1.set i (some d))) : Fine (mSet i f e) Q :=
  bnd (h.imp fun d e1 ⟨h1, q⟩ => bnd (setS h1 (ret q)))
theorem asg {f : M D} {g : D → M Unit} (h : Fine (f e) fun d e1 => Fine (g d e1) fun _ e2 => Q .nx e2) : Fine (mAsg f g e) Q := bnd (h.imp fun d e1 h1 => bnd (h1.imp fun _ _ q => ret q))
theorem par {i j : Nat} {f : M (List D)} (h : Fine (f e) fun ds e1 => ∃ a b, ds = [a, b] ∧ i < e1.length ∧ j < e1.length ∧ Q .nx ((e1.set i (some a)).set j (some b))) : Fine (mPar i j f e) Q :=
  bnd (h.imp fun ds e1 ⟨a, b, hd, h1, h2, q⟩ => bnd (by
    subst hd
    unfold put2
    dsimp only
    rw [if_pos (decide_eq_true h1), if_pos (decide_eq_true h2)]
    exact ⟨_, _, rfl, ret q⟩))
theorem gtup {n : Nat} {gs : List D → M Unit} {ds : List D} {Q : Unit → ME → Prop} (hl : ds.length = n) (h : Fine (gs ds e) Q) : Fine (gTupM n gs (.tuple ds) e) Q := by
  unfold gTupM
  dsimp only
  rw [if_pos (decide_eq_true hl)]
  exact h
theorem gcons {g : D → M Unit} {gs : List D → M Unit} {d : D} {r : List D} {Q : Unit → ME → Prop} (h : Fine (g d e) fun _ e1 => Fine (gs r e1) Q) : Fine (gConsM g gs (d :: r) e) Q := bnd h
theorem gnil {Q : Unit → ME → Prop} (q : Q () e) : Fine (gNilM [] e) Q := ret q
/-! loops -/
theorem each_nil {g : D → M Unit} {b : M Fl} (q : Q .nx e) : Fine (mEach g b [] e) Q := ret q
theorem each_cons {g : D → M Unit} {b : M Fl} {d : D} {r : List D} (h : Fine (g d e) fun _ e1 => Fine (b e1) fun fl e2 => match fl with
    | .nx => Fine (mEach g b r e2) Q
    | .ct => Fine (mEach g b r e2) Q
    | .bk => Q .nx e2
    | .rt d => Q (.rt d) e2) : Fine (mEach g b (d :: r) e) Q :=
  bnd (h.imp fun _ e1 h1 => bnd (h1.imp fun fl e2 h2 => by cases fl <;> first | exact h2 | exact ret h2))
/-- a loop by its invariant, over what is left; nothing leaves it but a return -/
theorem each_inv {g : D → M Unit} {b : M Fl} (I : List D → ME → Prop) (step : ∀ d r e, I (d :: r) e → Fine (g d e) fun _ e1 => Fine (b e1) fun fl e2 => match fl with
    | .nx => I r e2
    | .ct => I r e2
    | .bk => Q .nx e2
    | .rt d => Q (.rt d) e2) (fin : ∀ e, I [] e → Q .nx e) : ∀ (ds : List D) (e : ME), I ds e → Fine (mEach g b ds e) Q
  | [], e, h => each_nil (fin e h)
  | d :: r, e, h => each_cons ((step d r e h).imp fun _ e1 h1 => h1.imp fun fl e2 h2 => by
    cases fl with
    | nx => exact each_inv I step fin r e2 h2
    | ct => exact each_inv I step fin r e2 h2
    | bk => exact h2
    | rt d => exact h2)
theorem mfor {src : M (List D)} {g : D → M Unit} {b : M Fl} (h : Fine (src e) fun ds e1 => Fine (mEach g b ds e1) Q) : Fine (mFor src g b e) Q := bnd h
/-- while by what is left of its turns -/
theorem loop {c : M Bool} {b : M Fl} (I : Nat → ME → Prop) (step : ∀ n e, I (n + 1) e → Fine (c e) fun k e1 => (k = true → Fine (b e1) fun fl e2 => match fl with
    | .nx => I n e2
    | .ct => I n e2
    | .bk => Q .nx e2
    | .rt d => Q (.rt d) e2) ∧ (k = false → Q .nx e1)) (no : ∀ e, ¬ I 0 e) : ∀ (n : Nat) (e : ME), I n e → Fine (mLoop c b n e) Q
  | 0, e, h => absurd h (no e)
  | n + 1, e, h => by
    unfold mLoop
    exact bnd ((step n e h).imp fun k e1 ⟨h1, h2⟩ => by
      cases k with
      | true => exact bnd ((h1 rfl).imp fun fl e2 h3 => by
          cases fl with
          | nx => exact loop I step no n e2 h3
          | ct => exact loop I step no n e2 h3
          | bk => exact ret h3
          | rt d => exact ret h3)
      | false => exact ret (h2 rfl))
end Fine
/-! comprehensions -/
namespace Fine
variable {e : ME} {us : List Nat} {g : D → M Unit} {t : M Bool} {el : M D}
/-- the items gathered, by an invariant over what is left, what is there, the slots -/
theorem col_inv {Q : List D → ME → Prop} (I : List D → List D → ME → Prop) (step : ∀ d r acc e, I (d :: r) acc e → Fine (g d e) fun _ e1 => Fine (t e1) fun b e2 => (b = true → Fine (el e2) fun y e3 => fits acc.length = true ∧ I r (acc ++ [y]) (wipeE e3 us)) ∧ (b = false → I r acc (wipeE e2 us)))
    (fin : ∀ acc e, I [] acc e → Q acc e) : ∀ (ds acc : List D) (e : ME), I ds acc e → Fine (mCol us g t el ds acc e) Q
  | [], acc, e, h => ret (fin acc e h)
  | d :: r, acc, e, h => bnd ((step d r acc e h).imp fun _ e1 h1 => bnd (h1.imp fun b e2 ⟨h2, h3⟩ => by
    cases b with
    | true => exact bnd ((h2 rfl).imp fun y e3 ⟨h4, h5⟩ => by
        rw [if_pos h4]
        exact col_inv I step fin r _ _ h5)
    | false => exact col_inv I step fin r _ _ (h3 rfl)))
theorem comp {src : M (List D)} {Q : D → ME → Prop} (h : Fine (src e) fun ds e1 => Fine (mCol us g t el ds [] (wipeE e1 us)) fun acc e2 => Q (.list acc) (unwipe us e1 e2)) : Fine (mComp us src g t el e) Q :=
  bnd (h.imp fun ds e1 h1 => by
    obtain ⟨a, e2, h2, q⟩ := h1.ex
    show Fine (match mCol us g t el ds [] (wipeE e1 us) with | .ok acc env' => .ok (.list acc) (unwipe us e1 env') | _ => .bad) Q
    rw [h2]
    exact ⟨_, _, rfl, q⟩)
theorem gen_inv {Q : List D → ME → Prop} (I : List D → List D → ME → Prop) (step : ∀ d r acc e, I (d :: r) acc e → fits acc.length = true ∧ Fine (g d e) fun _ e1 => Fine (el e1) fun y e3 => I r (acc ++ [y]) (wipeE e3 us))
    (fin : ∀ acc e, I [] acc e → Q acc e) : ∀ (ds acc : List D) (e : ME), I ds acc e → Fine (mGen us g el ds acc e) Q
  | [], acc, e, h => ret (fin acc e h)
  | d :: r, acc, e, h => by
    obtain ⟨hf, h⟩ := step d r acc e h
    unfold mGen
    rw [if_pos hf]
    exact bnd (h.imp fun _ e1 h1 => bnd (h1.imp fun y e3 h5 => gen_inv I step fin r _ _ h5))
theorem tupG {src : M (List D)} {Q : D → ME → Prop} (h : Fine (src e) fun ds e1 => Fine (mGen us g el ds [] (wipeE e1 us)) fun acc e2 => fits acc.length = true ∧ Q (.tuple acc) (unwipe us e1 e2)) : Fine (mTupG us src g el e) Q :=
  bnd (h.imp fun ds e1 h1 => by
    obtain ⟨a, e2, h2, hf, q⟩ := h1.ex
    show Fine (match mGen us g el ds [] (wipeE e1 us) with | .ok acc env' => if fits acc.length = true then .ok (.tuple acc) (unwipe us e1 env') else .bad | _ => .bad) Q
    rw [h2]
    show Fine (if fits a.length = true then Res.ok (PyData.tuple a) (unwipe us e1 e2) else Res.bad) Q
    rw [if_pos hf]
    exact ⟨_, _, rfl, q⟩)
theorem alls_inv {Q : Bool → ME → Prop} (I : List D → ME → Prop) (step : ∀ d r e, I (d :: r) e → Fine (g d e) fun _ e1 => Fine (el e1) fun y e3 => ∃ b, y = .bool b ∧ ((b = true → I r (wipeE e3 us)) ∧ (b = false → Q false (wipeE e3 us))))
    (fin : ∀ e, I [] e → Q true e) : ∀ (ds : List D) (n : Nat) (e : ME), n + ds.length ≤ 100000 → I ds e → Fine (mAlls us g el ds n e) Q
  | [], n, e, _, h => ret (fin e h)
  | d :: r, n, e, hn, h => by
    unfold mAlls
    rw [if_pos (show fits n = true from decide_eq_true (by rw [List.length_cons] at hn; omega))]
    exact bnd ((step d r e h).imp fun _ e1 h1 => bnd (h1.imp fun y e3 ⟨b, hy, h2, h3⟩ => by
      subst hy
      cases b with
      | true => exact alls_inv I step fin r _ _ (by rw [List.length_cons] at hn; omega) (h2 rfl)
      | false => exact ⟨_, _, rfl, h3 rfl⟩))
theorem allG {src : M (List D)} {Q : D → ME → Prop} (h : Fine (src e) fun ds e1 => Fine (mAlls us g el ds 0 (wipeE e1 us)) fun b e2 => Q (.bool b) (unwipe us e1 e2)) : Fine (mAllG us src g el e) Q :=
  bnd (h.imp fun ds e1 h1 => by
    obtain ⟨a, e2, h2, q⟩ := h1.ex
    show Fine (match mAlls us g el ds 0 (wipeE e1 us) with | .ok b env' => .ok (.bool b) (unwipe us e1 env') | _ => .bad) Q
    rw [h2]
    exact ⟨_, _, rfl, q⟩)
end Fine
end Mir
/-! More rules: sequences, comprehensions that change nothing. -/
namespace Mir
open PySem L2
namespace Fine
variable {e : ME} {Q : Fl → ME → Prop}
theorem seq_inv {a b : M Fl} (h : Fine (mSeq a b e) Q) : Fine (a e) fun fl e1 => (fl = .nx ∧ Fine (b e1) Q) ∨ (fl ≠ .nx ∧ Q fl e1) := by
  have h := h.bnd_inv
  refine h.imp fun fl e1 h => ?_
  cases fl with
  | nx => exact .inl ⟨rfl, h⟩
  | rt d => exact .inr ⟨(fun z => by cases z), ret_inv h⟩
  | bk => exact .inr ⟨(fun z => by cases z), ret_inv h⟩
  | ct => exact .inr ⟨(fun z => by cases z), ret_inv h⟩
theorem seq_ite {c : M Bool} {a b r : M Fl} (h : Fine (c e) fun k e1 => (k = true → Fine (mSeq a r e1) Q) ∧ (k = false → Fine (mSeq b r e1) Q)) : Fine (mSeq (mIf c a b) r e) Q :=
  seq (ite (h.imp fun k e1 ⟨h1, h2⟩ => ⟨fun z => (h1 z).seq_inv, fun z => (h2 z).seq_inv⟩))
theorem seq_ret {f : M D} {r : M Fl} (h : Fine (f e) fun d e1 => Q (.rt d) e1) : Fine (mSeq (mRet f) r e) Q := seq (mret (h.imp fun d e1 q => .inr ⟨(fun z => by cases z), q⟩))
theorem seq_nx {r : M Fl} (h : Fine (r e) Q) : Fine (mSeq mNx r e) Q := seqN (nx ⟨rfl, h⟩)
theorem seq_seq {a b r : M Fl} (h : Fine (mSeq a (mSeq b r) e) Q) : Fine (mSeq (mSeq a b) r e) Q :=
  seq (seq (h.seq_inv.imp fun fl e1 h1 => by
    rcases h1 with ⟨h1, h2⟩ | ⟨h1, h2⟩
    · exact .inl ⟨h1, h2.seq_inv⟩
    · exact .inr ⟨h1, .inr ⟨h1, h2⟩⟩))
/-- a loop at a sequence's head -/
theorem seq_for {src : M (List D)} {g : D → M Unit} {b r : M Fl} (h : Fine (src e) fun ds e1 => Fine (mEach g b ds e1) fun fl e2 => (fl = .nx ∧ Fine (r e2) Q) ∨ (fl ≠ .nx ∧ Q fl e2)) : Fine (mSeq (mFor src g b) r e) Q := seq (mfor h)
end Fine
/-! what a block leaves -/
theorem unwipe_wipe (us : List Nat) (env env' : ME) (h : wipeE env' us = wipeE env us) : unwipe us env env' = env := by
  have hl : env'.length = env.length := by rw [← wipeE_len env' us, h, wipeE_len]
  refine List.ext_getElem? fun i => ?_
  unfold unwipe
  rw [List.getElem?_map]
  by_cases hi : i < env.length
  · rw [List.getElem?_range hi]
    show some (if i ∈ us then env.getD i none else env'.getD i none) = env[i]?
    by_cases hu : i ∈ us
    · rw [if_pos hu, List.getD_eq_getElem?_getD, List.getElem?_eq_getElem hi]
      rfl
    · rw [if_neg hu]
      have h1 : env'[i]? = env[i]? := by rw [← wipeE_out env' us i hu, h, wipeE_out env us i hu]
      rw [List.getD_eq_getElem?_getD, h1, List.getElem?_eq_getElem hi]
      rfl
  · rw [List.getElem?_eq_none (by rw [List.length_range]; omega), List.getElem?_eq_none (by omega)]
    rfl
theorem wipe_idem (us : List Nat) (env : ME) : wipeE (wipeE env us) us = wipeE env us := by
  refine List.ext_getElem? fun i => ?_
  by_cases hu : i ∈ us
  · have key : ∀ (vs : List Nat) (ev : ME), i ∈ vs → (wipeE ev vs)[i]? = if i < ev.length then some none else none := by
      intro vs
      induction vs with
      | nil => intro ev h; cases h
      | cons v vs ih =>
        intro ev h
        show ((wipeE ev vs).set v none)[i]? = _
        by_cases hv : v = i
        · subst hv
          by_cases hl : v < ev.length
          · rw [List.getElem?_set_self (by rw [wipeE_len]; exact hl), if_pos hl]
          · rw [List.getElem?_eq_none (by rw [List.length_set, wipeE_len]; omega), if_neg hl]
        · rw [List.getElem?_set_ne hv]
          cases h with
          | head => exact absurd rfl hv
          | tail _ h => exact ih ev h
    rw [key us _ hu, key us _ hu, wipeE_len]
  · rw [wipeE_out _ us i hu]
namespace Fine
variable {e : ME} {us : List Nat} {g : D → M Unit} {el : M D} {src : M (List D)} {Q : D → ME → Prop}
/-- all(el for g in src), nothing else changes -/
theorem allG_all {ds : List D} (P : D → Bool) (hs : Fine (src e) fun ds' e1 => ds' = ds ∧ e1 = e) (hf : ds.length ≤ 100000) (hel : ∀ d ∈ ds, Fine (g d (wipeE e us)) fun _ e1 => Fine (el e1) fun y e2 => y = .bool (P d) ∧ wipeE e2 us = wipeE e us) (q : Q (.bool (ds.all P)) e) : Fine (mAllG us src g el e) Q := by
  refine allG (hs.imp fun ds' e1 ⟨h1, h2⟩ => ?_)
  subst h1 h2
  refine alls_inv (fun r e' => ∃ p, ds' = p ++ r ∧ p.all P = true ∧ e' = wipeE e1 us) (fun d r e' ⟨p, hp, ha, he⟩ => ?_) (fun e' ⟨p, hp, ha, he⟩ => ?_) ds' 0 _ (by omega) ⟨[], rfl, rfl, rfl⟩
  · subst he
    refine (hel d (by rw [hp]; simp)).imp fun _ e2 h => h.imp fun y e3 ⟨hy, hw⟩ => ⟨P d, hy, fun z => ⟨p ++ [d], by rw [hp]; simp, by simp [ha, z], hw⟩, fun z => ?_⟩
    rw [hw, unwipe_wipe us e1 _ (wipe_idem us e1)]
    have h2 : ds'.all P = false := by rw [hp]; simp [z]
    rw [h2] at q
    exact q
  · rw [List.append_nil] at hp
    subst hp
    rw [he, unwipe_wipe us e1 _ (wipe_idem us e1)]
    rw [ha] at q
    exact q
end Fine
theorem lt_len {α : Type} {i : Nat} {l : List α} (h : Nat.ble (i + 1) l.length = true) : i < l.length := Nat.le_of_ble_eq_true h
theorem ex_eq {α β : Type} {a : α} {f : β → α} {b : β} {P : β → Prop} (h : a = f b) (p : P b) : ∃ b, a = f b ∧ P b := ⟨b, h, p⟩
theorem ex_par {α : Type} {ds : List α} {a b : α} {P : α → α → Prop} (h : ds = [a, b]) (p : P a b) : ∃ a b, ds = [a, b] ∧ P a b := ⟨a, b, h, p⟩
theorem and_rfl {α : Type} {a b : α} {P : Prop} (h : a = b) (p : P) : a = b ∧ P := ⟨h, p⟩
theorem and_len {α : Type} {i : Nat} {l : List α} {P : Prop} (h : i < l.length) (p : P) : i < l.length ∧ P := ⟨h, p⟩
theorem br_t {b : Bool} {p q : Prop} (h : b = true) (x : p) : (b = true → p) ∧ (b = false → q) := ⟨fun _ => x, fun z => by (rw [h] at z; cases z)⟩
theorem br_f {b : Bool} {p q : Prop} (h : b = false) (x : q) : (b = true → p) ∧ (b = false → q) := ⟨(fun z => by rw [h] at z; cases z), fun _ => x⟩
/-- a chain of numbers, the last one told without a change -/
theorem Fine.chainP {p p' : Int → Int → Bool} {a b c : M D} {e : ME} {Q : D → ME → Prop} (h : Fine (a e) fun x e1 => Fine (b e1) fun y e2 => ∃ i, x = .int i ∧ ∃ j, y = .int j ∧ Fine (c e2) fun z e3 => ∃ k, z = .int k ∧ e3 = e2 ∧ Q (.bool (p i j && p' j k)) e2) : Fine (mChain (dCmp p) (dCmp p') a b c e) Q :=
  Fine.chain (h.imp fun x e1 h1 => h1.imp fun y e2 ⟨i, hx, j, hy, h2⟩ => by
    subst hx hy
    refine ⟨p i j, rfl, fun z => ?_, fun z => ?_⟩
    · refine h2.imp fun z e3 ⟨k, hz, he, q⟩ => ?_
      subst hz he
      refine ⟨_, rfl, ?_⟩
      rw [z, Bool.true_and] at q
      exact q
    · obtain ⟨z1, e3, _, k, _, he, q⟩ := h2.ex
      rw [z, Bool.false_and] at q
      exact q)
/-! operators that ask for sizes -/
theorem dMul_int {i j : Int} (h1 : i.natAbs.log2 < 67000000) (h2 : j.natAbs.log2 < 67000000) : dMul (.int i) (.int j) = some (.int (i * j)) := by
  show (if wide i = true then (if wide j = true then some (PyData.int (i * j)) else none) else none) = _
  rw [if_pos (show wide i = true from decide_eq_true h1), if_pos (show wide j = true from decide_eq_true h2)]
theorem dDivP_int {i j : Int} (h1 : j ≠ 0) : dDivP (.int i) (.int j) = some (.int (i.fdiv j)) := by
  show (if decide (j ≠ 0) = true then some (PyData.int (i.fdiv j)) else none) = _
  rw [if_pos (decide_eq_true h1)]
theorem dDivP_pos {i j : Int} (h1 : 0 < j) : dDivP (.int i) (.int j) = some (.int (i / j)) := by rw [dDivP_int (by omega), Int.fdiv_eq_ediv_of_nonneg _ (by omega)]
theorem dMod_int {i j : Int} (h1 : j ≠ 0) : dMod (.int i) (.int j) = some (.int (i.fmod j)) := by
  show (if decide (j ≠ 0) = true then some (PyData.int (i.fmod j)) else none) = _
  rw [if_pos (decide_eq_true h1)]
theorem dMod_pos {i j : Int} (h1 : 0 < j) : dMod (.int i) (.int j) = some (.int (i % j)) := by rw [dMod_int (by omega), Int.fmod_eq_emod_of_nonneg _ (by omega)]
theorem gDivmod_pos {i j : Int} (h1 : 0 < j) (h2 : j.natAbs.log2 < 9000) : gDivmod [.int i, .int j] = some (.tuple [.int (i / j), .int (i % j)]) := by
  show (if decide (0 < j) = true then (if decide (j.natAbs.log2 < 9000) = true then some (PyData.tuple [.int (i / j), .int (i % j)]) else none) else none) = _
  rw [if_pos (decide_eq_true h1), if_pos (decide_eq_true h2)]
theorem log_lt {n k : Nat} (hk : 0 < k) (h : n < 2 ^ k) : n.log2 < k := by
  by_cases z : n = 0
  · rw [z, Nat.log2_zero]; exact hk
  · exact (Nat.log2_lt z).mpr h
/-- a small number's size -/
theorem log_s {i : Int} {k : Nat} (hk : 100 ≤ k) (h1 : -(2 ^ 100) < i) (h2 : i < 2 ^ 100) : i.natAbs.log2 < k := Nat.lt_of_lt_of_le (log_lt (k := 100) (by decide) (by omega)) hk
end Mir
/-! Fractions as data. -/
namespace Mir
open PySem L2
def encQ (q : Rat) : D := .tuple [.int q.num, .int (q.den : Int)]
def encRow (r : List Rat) : D := .tuple (r.map encQ)
def encTab (t : List (List Rat)) : D := .tuple (t.map encRow)
def encNs (l : List Nat) : D := .tuple (l.map fun (i : Nat) => .int (i : Int))
theorem Fine.gtupQ {gs : List D → M Unit} {q : Rat} {e : ME} {Q : Unit → ME → Prop} (h : Fine (gs [.int q.num, .int (q.den : Int)] e) Q) : Fine (gTupM 2 gs (encQ q) e) Q := Fine.gtup rfl h
/-- a number of few bits -/
structure Qb (b : Nat) (q : Rat) : Prop where
  num : q.num.natAbs < 2 ^ b
  den : q.den < 2 ^ b
theorem Qb.mono {b c : Nat} {q : Rat} (h : Qb b q) (hl : b ≤ c) : Qb c q :=
  ⟨Nat.lt_of_lt_of_le h.num (Nat.pow_le_pow_right (by decide) hl), Nat.lt_of_lt_of_le h.den (Nat.pow_le_pow_right (by decide) hl)⟩
/-! lowest terms -/
theorem iGcd_dvd_l (a b : Int) : iGcd a b ∣ a := Int.gcd_dvd_left a b
theorem iGcd_dvd_r (a b : Int) : iGcd a b ∣ b := Int.gcd_dvd_right a b
theorem iGcd_pos {a b : Int} (h : b ≠ 0) : 0 < iGcd a b := by
  unfold iGcd
  have : 0 < Nat.gcd a.natAbs b.natAbs := Nat.gcd_pos_of_pos_right _ (Int.natAbs_pos.mpr h)
  omega
/-- the lowest terms of a / b -/
theorem low_pos {a b : Int} (h : 0 < b) : encQ (Rat.divInt a b) = .tuple [.int (a.fdiv (iGcd a b)), .int (b.fdiv (iGcd a b))] := by
  have hg := iGcd_pos (a := a) (b := b) (by omega)
  have e1 : b.gcd a = Nat.gcd a.natAbs b.natAbs := by rw [Int.gcd_comm]; rfl
  unfold encQ
  rw [Rat.num_divInt, Rat.den_divInt, if_neg (by omega), Int.sign_eq_one_of_pos h, Int.one_mul, e1, Int.fdiv_eq_ediv_of_nonneg _ (by omega), Int.fdiv_eq_ediv_of_nonneg _ (by omega)]
  have e2 : ((b.natAbs / Nat.gcd a.natAbs b.natAbs : Nat) : Int) = b / iGcd a b := by
    unfold iGcd
    rw [Int.natCast_ediv, Int.natAbs_of_nonneg (by omega)]
  rw [e2]
  rfl
theorem low_neg {a b : Int} (h : b < 0) : encQ (Rat.divInt a b) = .tuple [.int (a.fdiv (-(iGcd a b))), .int (b.fdiv (-(iGcd a b)))] := by
  have hg := iGcd_pos (a := a) (b := b) (by omega)
  have e1 : b.gcd a = Nat.gcd a.natAbs b.natAbs := by rw [Int.gcd_comm]; rfl
  have d1 := iGcd_dvd_l a b
  have d2 := iGcd_dvd_r a b
  unfold encQ
  rw [Rat.num_divInt, Rat.den_divInt, if_neg (by omega), Int.sign_eq_neg_one_of_neg h, e1, Int.fdiv_eq_ediv_of_dvd (Int.neg_dvd.mpr d1), Int.fdiv_eq_ediv_of_dvd (Int.neg_dvd.mpr d2), Int.ediv_neg, Int.ediv_neg]
  have e2 : ((b.natAbs / Nat.gcd a.natAbs b.natAbs : Nat) : Int) = -(b / iGcd a b) := by
    have e3 : -(b / iGcd a b) = (-b) / iGcd a b := (Int.neg_ediv_of_dvd d2).symm
    rw [e3]
    unfold iGcd
    rw [Int.natCast_ediv]
    congr 1
    omega
  have e4 : -1 * a / ((Nat.gcd a.natAbs b.natAbs : Nat) : Int) = -(a / iGcd a b) := by
    have e3 : -(a / iGcd a b) = (-a) / iGcd a b := (Int.neg_ediv_of_dvd d1).symm
    rw [e3]
    unfold iGcd
    congr 1
    omega
  rw [e2, e4]
theorem qb_divInt {a b : Int} {k : Nat} (h0 : b ≠ 0) (ha : a.natAbs < 2 ^ k) (hb : b.natAbs < 2 ^ k) : Qb k (Rat.divInt a b) := by
  refine ⟨?_, ?_⟩
  · rw [Rat.num_divInt]
    refine Nat.lt_of_le_of_lt ?_ ha
    rw [Int.natAbs_ediv_of_dvd, Int.natAbs_mul, Int.natAbs_sign_of_ne_zero h0, Nat.one_mul]
    · exact Nat.div_le_self _ _
    · exact Int.dvd_trans (Int.gcd_dvd_right ..) (Int.dvd_mul_left _ _)
  · rw [Rat.den_divInt, if_neg h0]
    exact Nat.lt_of_le_of_lt (Nat.div_le_self _ _) hb
end Mir
/-! The mirrors of the laws' and the program's defs. -/
namespace ML
open PySem PySem.Spec PyProof.Rows L2 RZ Mir
def body__law_draw : M Fl :=
  (mSeq (mIf (mB (mOp (dCmp pGt) (mIxS 0 (ret (.int 0))) (ret (.int 0)))) (mSeq (mAsg (mCa gDivmod (mCons (mIxS 0 (ret (.int 0))) (mCons (mVar 1) (ret [])))) (gTupM 2 (gConsM (gPut 0 (ret (.int 0))) (gConsM (setS 2) gNilM))))
  (mRet (mVar 2))) mNx)
  (mSeq (mAsg (mOp dAdd (mIxS 0 (ret (.int 2))) (ret (.int 1))) (gPut 0 (ret (.int 2))))
  (mSeq (mSet 3 (mOp dMod (mCa (gI1 fun i => i) (mCons (mOp dAdd (mIxS 0 (ret (.int 1))) (mOp dMul (ret (.int 60013)) (mIxS 0 (ret (.int 2))))) (ret []))) (ret (.int 2147483563))))
  (mSeq (mAsg (mOp dMod (mCa (gI1 fun i => i) (mCons (mOp dAdd (mOp dMul (mVar 3) (mOp dAdd (mOp dMod (mCa (gI1 fun i => i) (mCons (mVar 3) (ret []))) (ret (.int 5003))) (ret (.int 40009)))) (mOp dMul (ret (.int 31)) (mIxS 0 (ret (.int 2))))) (ret []))) (ret (.int 2147483563))) (gPut 0 (ret (.int 1))))
  (mRet (mOp dMod (mCa (gI1 fun i => i) (mCons (mOp dDivP (mIxS 0 (ret (.int 1))) (ret (.int 641))) (ret []))) (mVar 1)))))))
def mir__law_draw : List D → Rs := mDef 2 4 true false body__law_draw
def turns_law_lean : ME → Nat := fun e => match e.getD 3 none with | some (.int i) => i.natAbs + 1 | _ => 0
def body__law_lean : M Fl :=
  (mSeq (mPar 2 3 (mCons (mCa (gI1 iAbs) (mCons (mVar 0) (ret []))) (mCons (mCa (gI1 iAbs) (mCons (mVar 1) (ret []))) (ret []))))
  (mSeq (mWhile turns_law_lean (mB (mOp dNe (mVar 3) (ret (.int 0)))) (mPar 2 3 (mCons (mVar 3) (mCons (mOp dMod (mCa (gI1 fun i => i) (mCons (mVar 2) (ret []))) (mVar 3)) (ret [])))))
  (mSeq (mSet 2 (mIf (mB (mOp (dCmp pGt) (mVar 1) (ret (.int 0)))) (mVar 2) (mOp dSub (ret (.int 0)) (mVar 2))))
  (mRet (mTup (mCons (mOp dDivP (mVar 0) (mVar 2)) (mCons (mOp dDivP (mVar 1) (mVar 2)) (ret []))))))))
def mir__law_lean : List D → Rs := mDef 2 4 false false body__law_lean
def body__law_number : M Fl :=
  (mSeq (mSet 1 (mCallI 0 mir__law_draw (mCons (ret (.int 72)) (ret []))))
  (mSeq (mIf (mAnd (mB (mOp (dEq false) (mVar 1) (ret (.int 71)))) (mB (mOp (dCmp pGt) (mIxS 0 (ret (.int 3))) (ret (.int 0))))) (mSeq (mAsg (ret (.int 0)) (gPut 0 (ret (.int 3))))
  (mRet (mCall mir__law_lean (mCons (mOp dSub (mCallI 0 mir__law_draw (mCons (ret (.int 3000017)) (ret []))) (ret (.int 1500008))) (mCons (mOp dAdd (ret (.int 1)) (mCallI 0 mir__law_draw (mCons (ret (.int 101)) (ret [])))) (ret [])))))) mNx)
  (mSeq (mIf (mB (mOp (dCmp pLt) (mVar 1) (ret (.int 50)))) (mRet (mTup (mCons (mOp dIx (mTup (mCons (ret (.int 0)) (mCons (ret (.int 1)) (mCons (mNeg (ret (.int 1))) (mCons (ret (.int 2)) (mCons (ret (.int 1)) (mCons (ret (.int 0)) (mCons (mNeg (ret (.int 2))) (mCons (ret (.int 3)) (ret [])))))))))) (mCallI 0 mir__law_draw (mCons (ret (.int 8)) (ret [])))) (mCons (ret (.int 1)) (ret []))))) mNx)
  (mRet (mCall mir__law_lean (mCons (mOp dSub (mCallI 0 mir__law_draw (mCons (ret (.int 11)) (ret []))) (ret (.int 5))) (mCons (mOp dAdd (ret (.int 2)) (mCallI 0 mir__law_draw (mCons (ret (.int 3)) (ret [])))) (ret []))))))))
def mir__law_number : List D → Rs := mDef 1 2 true false body__law_number
def body__law_line : M Fl :=
  (mSeq (mSet 2 (mLst (ret [])))
  (mSeq (mFor (mRange1 (mCons (mVar 1) (ret []))) (setS 3) (mApp 2 (mCallI 0 mir__law_number (ret []))))
  (mRet (mTupS 2))))
def mir__law_line : List D → Rs := mDef 2 4 true false body__law_line
def body__law_lines : M Fl :=
  (mSeq (mSet 3 (mLst (ret [])))
  (mSeq (mFor (mRange1 (mCons (mVar 1) (ret []))) (setS 4) (mApp 3 (mCallI 0 mir__law_line (mCons (mVar 2) (ret [])))))
  (mRet (mTupS 3))))
def mir__law_lines : List D → Rs := mDef 3 5 true false body__law_lines
def body__law_pick : M Fl :=
  (mRet (mOp dIx (mVar 1) (mCallI 0 mir__law_draw (mCons (mCa gLen (mCons (mVar 1) (ret []))) (ret [])))))
def mir__law_pick : List D → Rs := mDef 2 2 true false body__law_pick
def body__law_odd : M Fl :=
  (mRet (mCallI 0 mir__law_pick (mCons (mTup (mCons (ret .none) (mCons (ret (.bool true)) (mCons (ret (.bool false)) (mCons (ret (.int 0)) (mCons (ret (.int 1)) (mCons (mNeg (ret (.int 1))) (mCons (ret (.int 3)) (mCons (mOp dPow (ret (.int 10)) (ret (.int 25))) (mCons (ret (.str "")) (mCons (ret (.str "0")) (mCons (ret (.str "(0, 1)")) (mCons (mTup (ret [])) (mCons (mTup (mCons (ret (.int 0)) (ret []))) (mCons (mTup (mCons (ret (.int 0)) (mCons (ret (.int 1)) (ret [])))) (mCons (mTup (mCons (ret (.int 1)) (mCons (ret (.int 1)) (ret [])))) (mCons (mTup (mCons (ret (.int 2)) (mCons (ret (.int 2)) (ret [])))) (mCons (mTup (mCons (ret (.int 0)) (mCons (ret (.int 3)) (ret [])))) (mCons (mTup (mCons (ret (.int 1)) (mCons (ret (.int 0)) (ret [])))) (mCons (mTup (mCons (ret (.int 3)) (mCons (mNeg (ret (.int 2))) (ret [])))) (mCons (mTup (mCons (ret (.bool true)) (mCons (ret (.int 1)) (ret [])))) (mCons (mTup (mCons (ret (.int 0)) (mCons (ret (.bool true)) (ret [])))) (mCons (mTup (mCons (ret (.int 1)) (mCons (ret (.int 1)) (mCons (ret (.int 1)) (ret []))))) (mCons (mTup (mCons (mTup (ret [])) (ret []))) (mCons (mTup (mCons (mTup (mCons (ret (.int 0)) (mCons (ret (.int 1)) (ret [])))) (ret []))) (mCons (mTup (mCons (mTup (mCons (mTup (mCons (ret (.int 0)) (mCons (ret (.int 1)) (ret [])))) (ret []))) (ret []))) (mCons (mLst (ret [])) (mCons (mLst (mCons (ret (.int 0)) (mCons (ret (.int 1)) (ret [])))) (mCons (mLst (mCons (mTup (mCons (ret (.int 0)) (mCons (ret (.int 1)) (ret [])))) (ret []))) (mCons (ret (.dict [])) (mCons (mTup (mCons (ret .none) (mCons (ret (.int 1)) (ret [])))) (mCons (mTup (mCons (ret (.str "0")) (mCons (ret (.int 1)) (ret [])))) (mCons (mTup (mCons (mTup (mCons (mTup (mCons (ret (.int 1)) (mCons (ret (.int 1)) (ret [])))) (ret []))) (mCons (mTup (mCons (mTup (mCons (ret (.int 1)) (mCons (ret (.int 1)) (ret [])))) (ret []))) (ret [])))) (mCons (mTup (mCons (mTup (ret [])) (mCons (mTup (ret [])) (mCons (mTup (ret [])) (ret []))))) (ret []))))))))))))))))))))))))))))))))))) (ret []))))
def mir__law_odd : List D → Rs := mDef 1 1 true false body__law_odd
def body__law_bent (m : List D → Rs) : M Fl :=
  (mSeq (mIf (mAnd (mTruth (mIsi "tuple" (mVar 1))) (mAnd (mB (mOp dNe (mVar 1) (mTup (ret [])))) (mB (mOp (dCmp pGt) (mCallI 0 mir__law_draw (mCons (ret (.int 4)) (ret []))) (ret (.int 0)))))) (mSeq (mSet 2 (mCallI 0 mir__law_draw (mCons (mCa gLen (mCons (mVar 1) (ret []))) (ret []))))
  (mRet (mOp dAdd (mOp dAdd (mSl (mVar 1) (mPart none) (mPart (some (mVar 2)))) (mTup (mCons (mCallI 0 m (mCons (mOp dIx (mVar 1) (mVar 2)) (ret []))) (ret [])))) (mSl (mVar 1) (mPart (some (mOp dAdd (mVar 2) (ret (.int 1))))) (mPart none))))) mNx)
  (mSeq (mSet 3 (mCallI 0 mir__law_draw (mCons (ret (.int 9)) (ret []))))
  (mSeq (mIf (mAnd (mTruth (mIsi "tuple" (mVar 1))) (mB (mOp (dCmp pLt) (mVar 3) (ret (.int 6))))) (mRet (mOp dIx (mTup (mCons (mCa gList (mCons (mVar 1) (ret []))) (mCons (mSl (mVar 1) (mPart none) (mPart (some (mNeg (ret (.int 1)))))) (mCons (mOp dAdd (mVar 1) (mSl (mVar 1) (mPart (some (mNeg (ret (.int 1))))) (mPart none))) (mCons (mRev (mVar 1)) (mCons (mSl (mVar 1) (mPart (some (ret (.int 1)))) (mPart none)) (mCons (mOp dAdd (mSl (mVar 1) (mPart none) (mPart (some (ret (.int 1))))) (mVar 1)) (ret [])))))))) (mVar 3))) mNx)
  (mSeq (mIf (mAnd (mTruth (mIsi "int" (mVar 1))) (mB (mOp (dCmp pLt) (mVar 3) (ret (.int 5))))) (mRet (mOp dIx (mTup (mCons (mOp dAdd (mVar 1) (ret (.int 1))) (mCons (mOp dSub (ret (.int 0)) (mVar 1)) (mCons (mOp dMul (ret (.int 2)) (mVar 1)) (mCons (mOp dSub (mVar 1) (ret (.int 2))) (mCons (mOp (dEq false) (mVar 1) (ret (.int 1))) (ret []))))))) (mVar 3))) mNx)
  (mRet (mCallI 0 mir__law_odd (ret [])))))))
def mir__law_bent : Nat → List D → Rs
  | 0 => fun _ => .bad
  | k + 1 => mDef 2 4 true false (body__law_bent (mir__law_bent k))
def body__law_is_whole : M Fl :=
  (mRet (mAndV (mIsi "int" (mVar 0)) (mNotV (mIsi "bool" (mVar 0)))))
def mir__law_is_whole : List D → Rs := mDef 1 1 false false body__law_is_whole
def body__law_same (m : List D → Rs) : M Fl :=
  (mSeq (mIf (mTruth (mIsi "tuple" (mVar 1))) (mRet (mAndV (mIsi "tuple" (mVar 0)) (mAndV (mOp (dEq false) (mCa gLen (mCons (mVar 0) (ret []))) (mCa gLen (mCons (mVar 1) (ret [])))) (mCa dAll (mCons (mComp [2, 3] (mZip (mCons (mVar 0) (mCons (mVar 1) (ret [])))) (gTupM 2 (gConsM (setS 2) (gConsM (setS 3) gNilM))) mYes (mCall m (mCons (mVar 2) (mCons (mVar 3) (ret []))))) (ret [])))))) mNx)
  (mSeq (mIf (mB (mOp (dIs false) (mVar 1) (ret .none))) (mRet (mOp (dIs false) (mVar 0) (ret .none))) mNx)
  (mSeq (mIf (mTruth (mIsi "bool" (mVar 1))) (mRet (mAndV (mIsi "bool" (mVar 0)) (mOp (dEq false) (mVar 0) (mVar 1)))) mNx)
  (mSeq (mIf (mTruth (mIsi "str" (mVar 1))) (mRet (mAndV (mIsi "str" (mVar 0)) (mOp (dEq false) (mVar 0) (mVar 1)))) mNx)
  (mRet (mAndV (mCall mir__law_is_whole (mCons (mVar 0) (ret []))) (mOp (dEq false) (mVar 0) (mVar 1))))))))
def mir__law_same : Nat → List D → Rs
  | 0 => fun _ => .bad
  | k + 1 => mDef 2 4 false false (body__law_same (mir__law_same k))
def body__law_many : M Fl :=
  (mRet (mOp dIx (mTup (mCons (ret (.int 2)) (mCons (ret (.int 3)) (mCons (ret (.int 3)) (mCons (ret (.int 2)) (mCons (ret (.int 4)) (mCons (ret (.int 1)) (mCons (ret (.int 3)) (mCons (ret (.int 2)) (mCons (ret (.int 5)) (mCons (ret (.int 3)) (mCons (ret (.int 4)) (mCons (ret (.int 2)) (ret [])))))))))))))) (mCallI 0 mir__law_draw (mCons (ret (.int 12)) (ret [])))))
def mir__law_many : List D → Rs := mDef 1 1 true false body__law_many
def body__law_flip : M Fl :=
  (mRet (mCa gTuple (mCons (mComp [2] (mRange1 (mCons (mCa gLen (mCons (mOp dIx (mVar 0) (ret (.int 0))) (ret []))) (ret []))) (setS 2) mYes (mCa gTuple (mCons (mComp [1] (mItems (mVar 0)) (setS 1) mYes (mOp dIx (mVar 1) (mVar 2))) (ret [])))) (ret []))))
def mir__law_flip : List D → Rs := mDef 1 3 false false body__law_flip
def body__law_dot : M Fl :=
  (mSeq (mAsg (mTup (mCons (ret (.int 0)) (mCons (ret (.int 1)) (ret [])))) (gTupM 2 (gConsM (setS 2) (gConsM (setS 3) gNilM))))
  (mSeq (mFor (mZip (mCons (mVar 0) (mCons (mVar 1) (ret [])))) (gTupM 2 (gConsM (setS 4) (gConsM (setS 5) gNilM))) (mSeq (mSet 6 (mOp dMul (mOp dIx (mVar 4) (ret (.int 1))) (mOp dIx (mVar 5) (ret (.int 1)))))
  (mPar 2 3 (mCons (mOp dAdd (mOp dMul (mVar 2) (mVar 6)) (mOp dMul (mOp dMul (mOp dIx (mVar 4) (ret (.int 0))) (mOp dIx (mVar 5) (ret (.int 0)))) (mVar 3))) (mCons (mOp dMul (mVar 3) (mVar 6)) (ret []))))))
  (mRet (mCall mir__law_lean (mCons (mVar 2) (mCons (mVar 3) (ret [])))))))
def mir__law_dot : List D → Rs := mDef 2 7 false false body__law_dot
def body__law_mul : M Fl :=
  (mSeq (mSet 2 (mCall mir__law_flip (mCons (mVar 1) (ret []))))
  (mRet (mCa gTuple (mCons (mComp [4] (mItems (mVar 0)) (setS 4) mYes (mCa gTuple (mCons (mComp [3] (mItems (mVar 2)) (setS 3) mYes (mCall mir__law_dot (mCons (mVar 4) (mCons (mVar 3) (ret []))))) (ret [])))) (ret [])))))
def mir__law_mul : List D → Rs := mDef 2 5 false false body__law_mul
def body__law_any : M Fl :=
  (mSeq (mSet 3 (mCallI 0 mir__law_draw (mCons (ret (.int 6)) (ret []))))
  (mSeq (mIf (mB (mOp (dCmp pLt) (mVar 3) (ret (.int 3)))) (mRet (mCallI 0 mir__law_lines (mCons (mVar 1) (mCons (mVar 2) (ret []))))) mNx)
  (mSeq (mSet 4 (mOp dAdd (ret (.int 1)) (mCallI 0 mir__law_draw (mCons (mCa (gI2 iMax) (mCons (ret (.int 1)) (mCons (mOp dSub (mCa (gI2 iMin) (mCons (mVar 1) (mCons (mVar 2) (ret [])))) (ret (.int 1))) (ret [])))) (ret [])))))
  (mSeq (mIf (mB (mOp (dCmp pLt) (mVar 3) (ret (.int 5)))) (mRet (mCall mir__law_mul (mCons (mCallI 0 mir__law_lines (mCons (mVar 1) (mCons (mVar 4) (ret [])))) (mCons (mCallI 0 mir__law_lines (mCons (mVar 4) (mCons (mVar 2) (ret [])))) (ret []))))) mNx)
  (mSeq (mPar 5 6 (mCons (mOp dAdd (mCallI 0 mir__law_lines (mCons (ret (.int 2)) (mCons (mVar 2) (ret [])))) (mTup (mCons (mOp dMul (mTup (mCons (mTup (mCons (ret (.int 0)) (mCons (ret (.int 1)) (ret [])))) (ret []))) (mVar 2)) (ret [])))) (mConsO (mLst (ret [])) (ret []))))
  (mSeq (mFor (mRange1 (mCons (mVar 1) (ret []))) (setS 7) (mApp 6 (mCallI 0 mir__law_pick (mCons (mVar 5) (ret [])))))
  (mRet (mTupS 6))))))))
def mir__law_any : List D → Rs := mDef 3 8 true false body__law_any
def body__law_lot : M Fl :=
  (mSeq (mSet 2 (mLst (ret [])))
  (mSeq (mFor (mRange1 (mCons (mVar 1) (ret []))) (setS 3) (mIf (mB (mOp (dEq false) (mCallI 0 mir__law_draw (mCons (ret (.int 2)) (ret []))) (ret (.int 1)))) (mApp 2 (mVar 3)) mNx))
  (mRet (mTupS 2))))
def mir__law_lot : List D → Rs := mDef 2 4 true false body__law_lot
def body_is_tuple_of : M Fl :=
  (mRet (mAndV (mIsi "tuple" (mVar 0)) (mOp (dEq false) (mCa gLen (mCons (mVar 0) (ret []))) (mVar 1))))
def mir_is_tuple_of : List D → Rs := mDef 2 2 false false body_is_tuple_of
def body_is_whole : M Fl :=
  (mRet (mAndV (mIsi "int" (mVar 0)) (mNotV (mIsi "bool" (mVar 0)))))
def mir_is_whole : List D → Rs := mDef 1 1 false false body_is_whole
def body_is_fraction : M Fl :=
  (mSeq (mIf (mNot (mTruth (mCall mir_is_tuple_of (mCons (mVar 0) (mCons (ret (.int 2)) (ret [])))))) (mRet (ret (.bool false))) mNx)
  (mSeq (mAsg (mVar 0) (gTupM 2 (gConsM (setS 1) (gConsM (setS 2) gNilM))))
  (mRet (mAndV (mCall mir_is_whole (mCons (mVar 1) (ret []))) (mAndV (mCall mir_is_whole (mCons (mVar 2) (ret []))) (mAndV (mOp (dCmp pGt) (mVar 2) (ret (.int 0))) (mOp (dEq false) (mCa (gI2 iGcd) (mCons (mVar 1) (mCons (mVar 2) (ret [])))) (ret (.int 1)))))))))
def mir_is_fraction : List D → Rs := mDef 1 3 false false body_is_fraction
def body_is_row : M Fl :=
  (mRet (mAndV (mCall mir_is_tuple_of (mCons (mVar 0) (mCons (mVar 1) (ret [])))) (mAllG [2] (mItems (mVar 0)) (setS 2) (mCall mir_is_fraction (mCons (mVar 2) (ret []))))))
def mir_is_row : List D → Rs := mDef 2 3 false false body_is_row
def body_is_table : M Fl :=
  (mSeq (mIf (mOr (mNot (mTruth (mIsi "tuple" (mVar 0)))) (mNot (mB (mChain (dCmp pLe) (dCmp pLe) (ret (.int 1)) (mCa gLen (mCons (mVar 0) (ret []))) (ret (.int 6)))))) (mRet (ret (.bool false))) mNx)
  (mSeq (mSet 1 (mOp dIx (mVar 0) (ret (.int 0))))
  (mSeq (mIf (mOr (mNot (mTruth (mIsi "tuple" (mVar 1)))) (mNot (mB (mChain (dCmp pLe) (dCmp pLe) (ret (.int 1)) (mCa gLen (mCons (mVar 1) (ret []))) (ret (.int 6)))))) (mRet (ret (.bool false))) mNx)
  (mRet (mAllG [2] (mItems (mVar 0)) (setS 2) (mCall mir_is_row (mCons (mVar 2) (mCons (mCa gLen (mCons (mVar 1) (ret []))) (ret [])))))))))
def mir_is_table : List D → Rs := mDef 1 3 false false body_is_table
def body_check_table : M Fl :=
  (mIf (mNot (mTruth (mCall mir_is_table (mCons (mVar 0) (ret []))))) bad mNx)
def mir_check_table : List D → Rs := mDef 1 1 false false body_check_table
def body_is_between : M Fl :=
  (mRet (mAndV (mCall mir_is_whole (mCons (mVar 0) (ret []))) (mChain (dCmp pLe) (dCmp pLe) (mVar 1) (mVar 0) (mVar 2))))
def mir_is_between : List D → Rs := mDef 3 3 false false body_is_between
def body_is_lot : M Fl :=
  (mSeq (mIf (mNot (mTruth (mIsi "tuple" (mVar 0)))) (mRet (ret (.bool false))) mNx)
  (mSeq (mSet 2 (ret (.int 0)))
  (mSeq (mFor (mItems (mVar 0)) (setS 3) (mSeq (mIf (mNot (mTruth (mCall mir_is_between (mCons (mVar 3) (mCons (mVar 2) (mCons (mOp dSub (mVar 1) (ret (.int 1))) (ret []))))))) (mRet (ret (.bool false))) mNx)
  (mSet 2 (mOp dAdd (mVar 3) (ret (.int 1))))))
  (mRet (ret (.bool true))))))
def mir_is_lot : List D → Rs := mDef 2 4 false false body_is_lot
def body_check_lot : M Fl :=
  (mIf (mNot (mTruth (mCall mir_is_lot (mCons (mVar 0) (mCons (mVar 1) (ret [])))))) bad mNx)
def mir_check_lot : List D → Rs := mDef 2 2 false false body_check_lot
def body_check_part : M Fl :=
  (mSeq (mDrop (mCall mir_check_table (mCons (mVar 0) (ret []))))
  (mSeq (mDrop (mCall mir_check_lot (mCons (mVar 1) (mCons (mCa gLen (mCons (mVar 0) (ret []))) (ret [])))))
  (mDrop (mCall mir_check_lot (mCons (mVar 2) (mCons (mCa gLen (mCons (mOp dIx (mVar 0) (ret (.int 0))) (ret []))) (ret [])))))))
def mir_check_part : List D → Rs := mDef 3 3 false false body_check_part
def body_numbers_at : M Fl :=
  (mRet (mTupG [4] (mItems (mVar 1)) (setS 4) (mTupG [3] (mItems (mVar 2)) (setS 3) (mOp dIx (mOp dIx (mVar 0) (mVar 4)) (mVar 3)))))
def mir_numbers_at : List D → Rs := mDef 3 5 false false body_numbers_at
def body_part : M Fl :=
  (mSeq (mDrop (mCall mir_check_part (mCons (mVar 0) (mCons (mVar 1) (mCons (mVar 2) (ret []))))))
  (mRet (mCall mir_numbers_at (mCons (mVar 0) (mCons (mVar 1) (mCons (mVar 2) (ret [])))))))
def mir_part : List D → Rs := mDef 3 3 false false body_part
def body_columns_at : M Fl :=
  (mRet (mTupG [3] (mItems (mVar 1)) (setS 3) (mTupG [2] (mItems (mVar 0)) (setS 2) (mOp dIx (mVar 2) (mVar 3)))))
def mir_columns_at : List D → Rs := mDef 2 4 false false body_columns_at
def body_fraction : M Fl :=
  (mSeq (mSet 2 (mCa (gI2 iGcd) (mCons (mVar 0) (mCons (mVar 1) (ret [])))))
  (mSeq (mIf (mB (mOp (dCmp pLt) (mVar 1) (ret (.int 0)))) (mSet 2 (mNeg (mVar 2))) mNx)
  (mRet (mTup (mCons (mOp dDivP (mVar 0) (mVar 2)) (mCons (mOp dDivP (mVar 1) (mVar 2)) (ret [])))))))
def mir_fraction : List D → Rs := mDef 2 3 false false body_fraction
def body_dot : M Fl :=
  (mSeq (mSet 2 (ret (.int 1)))
  (mSeq (mFor (mZip (mCons (mVar 0) (mCons (mVar 1) (ret [])))) (gTupM 2 (gConsM (setS 3) (gConsM (setS 4) gNilM))) (mSet 2 (mCa gLcmP (mCons (mVar 2) (mCons (mOp dMul (mOp dIx (mVar 3) (ret (.int 1))) (mOp dIx (mVar 4) (ret (.int 1)))) (ret []))))))
  (mSeq (mSet 5 (ret (.int 0)))
  (mSeq (mFor (mZip (mCons (mVar 0) (mCons (mVar 1) (ret [])))) (gTupM 2 (gConsM (gTupM 2 (gConsM (setS 6) (gConsM (setS 7) gNilM))) (gConsM (gTupM 2 (gConsM (setS 8) (gConsM (setS 9) gNilM))) gNilM))) (mSet 5 (mOp dAdd (mVar 5) (mOp dMul (mOp dMul (mVar 6) (mVar 8)) (mOp dDivP (mVar 2) (mOp dMul (mVar 7) (mVar 9)))))))
  (mRet (mCall mir_fraction (mCons (mVar 5) (mCons (mVar 2) (ret [])))))))))
def mir_dot : List D → Rs := mDef 2 10 false false body_dot
def body_applied : M Fl :=
  (mRet (mTupG [2] (mItems (mVar 0)) (setS 2) (mCall mir_dot (mCons (mVar 2) (mCons (mVar 1) (ret []))))))
def mir_applied : List D → Rs := mDef 2 3 false false body_applied
def body_times : M Fl :=
  (mSeq (mSet 3 (mCall mir_columns_at (mCons (mVar 1) (mCons (mListRg (mVar 2)) (ret [])))))
  (mRet (mTupG [4] (mItems (mVar 0)) (setS 4) (mCall mir_applied (mCons (mVar 3) (mCons (mVar 4) (ret [])))))))
def mir_times : List D → Rs := mDef 3 5 false false body_times
def body_multiplied : M Fl :=
  (mRet (mCall mir_times (mCons (mVar 0) (mCons (mVar 1) (mCons (mCa gLen (mCons (mOp dIx (mVar 1) (ret (.int 0))) (ret []))) (ret []))))))
def mir_multiplied : List D → Rs := mDef 2 2 false false body_multiplied
def body_product : M Fl :=
  (mSeq (mDrop (mCall mir_check_table (mCons (mVar 0) (ret []))))
  (mSeq (mDrop (mCall mir_check_table (mCons (mVar 1) (ret []))))
  (mSeq (mIf (mB (mOp dNe (mCa gLen (mCons (mVar 1) (ret []))) (mCa gLen (mCons (mOp dIx (mVar 0) (ret (.int 0))) (ret []))))) bad mNx)
  (mRet (mCall mir_multiplied (mCons (mVar 0) (mCons (mVar 1) (ret []))))))))
def mir_product : List D → Rs := mDef 2 2 false false body_product
def body_turned_over : M Fl :=
  (mSeq (mDrop (mCall mir_check_table (mCons (mVar 0) (ret []))))
  (mRet (mCall mir_columns_at (mCons (mVar 0) (mCons (mListRg (mCa gLen (mCons (mOp dIx (mVar 0) (ret (.int 0))) (ret [])))) (ret []))))))
def mir_turned_over : List D → Rs := mDef 1 1 false false body_turned_over
def body__law_is_number : M Fl :=
  (mSeq (mIf (mOr (mNot (mTruth (mIsi "tuple" (mVar 0)))) (mOr (mB (mOp dNe (mCa gLen (mCons (mVar 0) (ret []))) (ret (.int 2)))) (mNot (mTruth (mCa dAll (mCons (mComp [1] (mItems (mVar 0)) (setS 1) mYes (mCall mir__law_is_whole (mCons (mVar 1) (ret [])))) (ret []))))))) (mRet (ret (.bool false))) mNx)
  (mRet (mAndV (mOp (dCmp pGt) (mOp dIx (mVar 0) (ret (.int 1))) (ret (.int 0))) (mOp (dEq false) (mCall mir__law_lean (mCons (mOp dIx (mVar 0) (ret (.int 0))) (mCons (mOp dIx (mVar 0) (ret (.int 1))) (ret [])))) (mVar 0)))))
def mir__law_is_number : List D → Rs := mDef 1 2 false false body__law_is_number
def body__law_is_line : M Fl :=
  (mRet (mAndV (mIsi "tuple" (mVar 0)) (mAndV (mOp (dEq false) (mCa gLen (mCons (mVar 0) (ret []))) (mVar 1)) (mCa dAll (mCons (mComp [2] (mItems (mVar 0)) (setS 2) mYes (mCall mir__law_is_number (mCons (mVar 2) (ret [])))) (ret []))))))
def mir__law_is_line : List D → Rs := mDef 2 3 false false body__law_is_line
def body__law_is_grid : M Fl :=
  (mRet (mAndV (mIsi "tuple" (mVar 0)) (mAndV (mOp (dEq false) (mCa gLen (mCons (mVar 0) (ret []))) (mVar 1)) (mCa dAll (mCons (mComp [3] (mItems (mVar 0)) (setS 3) mYes (mCall mir__law_is_line (mCons (mVar 3) (mCons (mVar 2) (ret []))))) (ret []))))))
def mir__law_is_grid : List D → Rs := mDef 3 4 false false body__law_is_grid
def body__law_is_whole_table : M Fl :=
  (mSeq (mIf (mOr (mNot (mTruth (mIsi "tuple" (mVar 0)))) (mOr (mNot (mB (mChain (dCmp pLt) (dCmp pLt) (ret (.int 0)) (mCa gLen (mCons (mVar 0) (ret []))) (ret (.int 7))))) (mNot (mTruth (mIsi "tuple" (mOp dIx (mVar 0) (ret (.int 0)))))))) (mRet (ret (.bool false))) mNx)
  (mRet (mAndV (mChain (dCmp pLt) (dCmp pLt) (ret (.int 0)) (mCa gLen (mCons (mOp dIx (mVar 0) (ret (.int 0))) (ret []))) (ret (.int 7))) (mCall mir__law_is_grid (mCons (mVar 0) (mCons (mCa gLen (mCons (mVar 0) (ret []))) (mCons (mCa gLen (mCons (mOp dIx (mVar 0) (ret (.int 0))) (ret []))) (ret []))))))))
def mir__law_is_whole_table : List D → Rs := mDef 1 1 false false body__law_is_whole_table
def body__law_piece : M Fl :=
  (mRet (mCa gTuple (mCons (mComp [4] (mItems (mVar 1)) (setS 4) mYes (mCa gTuple (mCons (mComp [3] (mItems (mVar 2)) (setS 3) mYes (mOp dIx (mOp dIx (mVar 0) (mVar 4)) (mVar 3))) (ret [])))) (ret []))))
def mir__law_piece : List D → Rs := mDef 3 5 false false body__law_piece
def body__law_common : M Fl :=
  (mSeq (mSet 1 (ret (.int 1)))
  (mSeq (mFor (mItems (mVar 0)) (setS 2) (mIf (mB (mOp dNe (mOp dMod (mCa (gI1 fun i => i) (mCons (mVar 1) (ret []))) (mOp dIx (mVar 2) (ret (.int 1)))) (ret (.int 0)))) (mSet 1 (mOp dMul (mVar 1) (mOp dIx (mVar 2) (ret (.int 1))))) mNx))
  (mRet (mVar 1))))
def mir__law_common : List D → Rs := mDef 1 3 false false body__law_common
def body__law_wholes : M Fl :=
  (mSeq (mSet 1 (mLst (ret [])))
  (mSeq (mFor (mItems (mVar 0)) (setS 2) (mSeq (mSet 3 (mCall mir__law_common (mCons (mVar 2) (ret []))))
  (mApp 1 (mComp [4, 5] (mItems (mVar 2)) (gTupM 2 (gConsM (setS 4) (gConsM (setS 5) gNilM))) mYes (mOp dMul (mVar 4) (mOp dDivP (mVar 3) (mVar 5)))))))
  (mRet (mFrz 1))))
def mir__law_wholes : List D → Rs := mDef 1 6 false true body__law_wholes
def body__law_heads : M Fl :=
  (mSeq (mPar 1 2 (mConsO (mCall mir__law_wholes (mCons (mVar 0) (ret []))) (mConsO (mLst (ret [])) (ret []))))
  (mSeq (mFor (mRange1 (mCons (mIf (mB (mOp (dCmp pGt) (mCa gLen (mCons (mVar 0) (ret []))) (ret (.int 0)))) (mCa gLen (mCons (mOp dIx (mVar 0) (ret (.int 0))) (ret []))) (ret (.int 0))) (ret []))) (setS 3) (mSeq (mSet 4 (mLenS 2))
  (mSeq (mSet 5 (mComp [6] (mRange2 (mCons (mVar 4) (mCons (mLenS 1) (ret [])))) (setS 6) (mB (mOp dNe (mOp dIx (mIxS 1 (mVar 6)) (mVar 3)) (ret (.int 0)))) (mVar 6)))
  (mIf (mB (mOp dNe (mVar 5) (mLst (ret [])))) (mSeq (mAsg (mTup (mCons (mIxS 1 (mOp dIx (mVar 5) (ret (.int 0)))) (mCons (mIxS 1 (mVar 4)) (ret [])))) (gTupM 2 (gConsM (gPut 1 (mVar 4)) (gConsM (gPut 1 (mOp dIx (mVar 5) (ret (.int 0)))) gNilM))))
  (mSeq (mSet 7 (mIxS 1 (mVar 4)))
  (mSeq (mFor (mRange2 (mCons (mOp dAdd (mVar 4) (ret (.int 1))) (mCons (mLenS 1) (ret [])))) (setS 6) (mSeq (mSet 8 (mOp dIx (mIxS 1 (mVar 6)) (mVar 3)))
  (mIf (mB (mOp dNe (mVar 8) (ret (.int 0)))) (mAsg (mComp [9, 10] (mZip (mCons (mIxS 1 (mVar 6)) (mCons (mVar 7) (ret [])))) (gTupM 2 (gConsM (setS 9) (gConsM (setS 10) gNilM))) mYes (mOp dSub (mOp dMul (mVar 9) (mOp dIx (mVar 7) (mVar 3))) (mOp dMul (mVar 10) (mVar 8)))) (gPut 1 (mVar 6))) mNx)))
  (mApp 2 (mVar 3))))) mNx))))
  (mRet (mFrz 2))))
def mir__law_heads : List D → Rs := mDef 1 11 false true body__law_heads
def body__law_rank : M Fl :=
  (mRet (mCa gLen (mCons (mCall mir__law_heads (mCons (mVar 0) (ret []))) (ret []))))
def mir__law_rank : List D → Rs := mDef 1 1 false false body__law_rank
def body__law_place : M Fl :=
  (mSeq (mPar3 3 4 5 (mCons (mCallI 0 mir__law_line (mCons (mVar 1) (ret []))) (mCons (mCallI 0 mir__law_lines (mCons (mVar 2) (mCons (mVar 1) (ret [])))) (mCons (mCallI 0 mir__law_line (mCons (mVar 2) (ret []))) (ret [])))))
  (mSeq (mSet 6 (mOp (dEq false) (mCall mir__law_rank (mCons (mComp [7, 8] (mZip (mCons (mVar 4) (mCons (mVar 5) (ret [])))) (gTupM 2 (gConsM (setS 7) (gConsM (setS 8) gNilM))) mYes (mOp dAdd (mVar 7) (mTup (mCons (mVar 8) (ret []))))) (ret []))) (mVar 2)))
  (mSeq (mIf (mAnd (mTruth (mVar 6)) (mB (mOp (dEq false) (mCall mir__law_rank (mCons (mOp dAdd (mTup (mCons (mVar 3) (ret []))) (mVar 4)) (ret []))) (mVar 1)))) (mRet (mTup (mCons (mVar 3) (mCons (mVar 4) (mCons (mVar 5) (ret [])))))) mNx)
  (mSeq (mSet 4 (mCa gTuple (mCons (mComp [10] (mRange1 (mCons (mVar 2) (ret []))) (setS 10) mYes (mCa gTuple (mCons (mComp [9] (mRange1 (mCons (mVar 1) (ret []))) (setS 9) mYes (mTup (mCons (mCa gInt (mCons (mOp (dEq false) (mVar 10) (mVar 9)) (ret []))) (mCons (ret (.int 1)) (ret []))))) (ret [])))) (ret []))))
  (mSeq (mIf (mB (mOp (dCmp pGt) (mVar 2) (mVar 1))) (mSet 5 (mOp dAdd (mOp dMul (mTup (mCons (mTup (mCons (ret (.int 0)) (mCons (ret (.int 1)) (ret [])))) (ret []))) (mVar 1)) (mTup (mCons (mTup (mCons (ret (.int 1)) (mCons (ret (.int 1)) (ret [])))) (ret []))))) mNx)
  (mSeq (mIf (mB (mOp (dCmp pLt) (mVar 2) (mVar 1))) (mSet 3 (mOp dAdd (mOp dMul (mTup (mCons (mTup (mCons (ret (.int 0)) (mCons (ret (.int 1)) (ret [])))) (ret []))) (mVar 2)) (mTup (mCons (mTup (mCons (ret (.int 1)) (mCons (ret (.int 1)) (ret [])))) (ret []))))) mNx)
  (mRet (mTup (mCons (mVar 3) (mCons (mVar 4) (mCons (mVar 5) (ret []))))))))))))
def mir__law_place : List D → Rs := mDef 3 11 true false body__law_place
def body__law_least : M Fl :=
  (mSeq (mPar 2 3 (mConsO (mLst (mCons (ret (.int 0)) (ret []))) (mConsO (mLst (ret [])) (ret []))))
  (mSeq (mFor (mRange2 (mCons (ret (.int 1)) (mCons (mVar 1) (ret [])))) (setS 4) (mSeq (mSet 5 (mComp [6] (mItems (mTup (mCons (ret (.int 1)) (mCons (ret (.int 0)) (mCons (ret (.int 1)) (mCons (mNeg (ret (.int 1))) (mCons (ret (.int 1)) (ret [])))))))) (setS 6) (mB (mChain (dCmp pLe) (dCmp pLe) (ret (.int 0)) (mOp dAdd (mIxS 2 (mNeg (ret (.int 1)))) (mVar 6)) (mOp dSub (mVar 1) (mVar 4)))) (mOp dAdd (mIxS 2 (mNeg (ret (.int 1)))) (mVar 6))))
  (mApp 2 (mCallI 0 mir__law_pick (mCons (mVar 5) (ret []))))))
  (mSw 2 (mSeq (mFor (mZip (mCons (mVar 2) (mCons (mOp dAdd (mSl (mVar 2) (mPart (some (ret (.int 1)))) (mPart none)) (mLst (mCons (ret (.int 0)) (ret [])))) (ret [])))) (gTupM 2 (gConsM (setS 7) (gConsM (setS 8) gNilM))) (mApp 3 (mCallI 0 mir__law_place (mCons (mVar 7) (mCons (mVar 8) (ret []))))))
  (mRet (mTupS 3))))))
def mir__law_least : List D → Rs := mDef 2 9 true false body__law_least
def body__law_filled : M Fl :=
  (mSeq (mSet 2 (mLst (ret [])))
  (mSeq (mFor (mZip (mCons (mVar 1) (mCons (mSl (mVar 1) (mPart (some (ret (.int 1)))) (mPart none)) (ret [])))) (gTupM 2 (gConsM (setS 3) (gConsM (setS 4) gNilM))) (mSeq (mPar 5 6 (mCons (mCallI 0 mir__law_line (mCons (mVar 3) (ret []))) (mCons (mCallI 0 mir__law_lines (mCons (mVar 4) (mCons (mVar 3) (ret [])))) (ret []))))
  (mApp 2 (mTup (mCons (mVar 5) (mCons (mVar 6) (mCons (mCallI 0 mir__law_line (mCons (mVar 4) (ret []))) (ret []))))))))
  (mRet (mTupS 2))))
def mir__law_filled : List D → Rs := mDef 2 7 true false body__law_filled
def body__law_wide : M Fl :=
  (mSeq (mSet 3 (mLst (mCons (ret (.int 0)) (ret []))))
  (mSeq (mFor (mRange1 (mCons (mOp dSub (mVar 1) (ret (.int 1))) (ret []))) (setS 4) (mApp 3 (mCallI 0 mir__law_draw (mCons (mOp dAdd (mVar 2) (ret (.int 1))) (ret [])))))
  (mRet (mCallI 0 mir__law_filled (mCons (mOp dAdd (mFrz 3) (mLst (mCons (ret (.int 0)) (ret [])))) (ret []))))))
def mir__law_wide : List D → Rs := mDef 3 5 true false body__law_wide
def body__law_padded : M Fl :=
  (mSeq (mPar 3 4 (mCons (mOp dIx (mVar 1) (mOp dSub (mVar 2) (ret (.int 1)))) (mCons (mOp dIx (mVar 1) (mVar 2)) (ret []))))
  (mSeq (mPar3 5 6 7 (mCons (mCallI 0 mir__law_draw (mCons (ret (.int 3)) (ret []))) (mCons (mCa gLen (mCons (mOp dIx (mVar 3) (ret (.int 0))) (ret []))) (mCons (mCa gLen (mCons (mOp dIx (mVar 4) (ret (.int 2))) (ret []))) (ret [])))))
  (mSeq (mAsg (mTup (mCons (mOp dMul (mTup (mCons (mTup (mCons (ret (.int 0)) (mCons (ret (.int 1)) (ret [])))) (ret []))) (mVar 6)) (mCons (mTup (mCons (ret (.int 0)) (mCons (ret (.int 1)) (ret [])))) (mCons (mTup (mCons (ret (.int 0)) (mCons (ret (.int 1)) (ret [])))) (mCons (mOp dMul (mTup (mCons (mTup (mCons (ret (.int 0)) (mCons (ret (.int 1)) (ret [])))) (ret []))) (mVar 7)) (ret [])))))) (gTupM 4 (gConsM (setS 8) (gConsM (setS 9) (gConsM (setS 10) (gConsM (setS 11) gNilM))))))
  (mSeq (mIf (mB (mOp (dEq false) (mVar 5) (ret (.int 0)))) (mPar 8 9 (mCons (mCallI 0 mir__law_line (mCons (mVar 6) (ret []))) (mCons (mCallI 0 mir__law_number (ret [])) (ret [])))) mNx)
  (mSeq (mIf (mB (mOp (dEq false) (mVar 5) (ret (.int 1)))) (mPar 10 11 (mCons (mCallI 0 mir__law_number (ret [])) (mCons (mCallI 0 mir__law_line (mCons (mVar 7) (ret []))) (ret [])))) mNx)
  (mSeq (mSet 3 (mTup (mCons (mOp dIx (mVar 3) (ret (.int 0))) (mCons (mOp dAdd (mOp dIx (mVar 3) (ret (.int 1))) (mTup (mCons (mVar 8) (ret [])))) (mCons (mOp dAdd (mOp dIx (mVar 3) (ret (.int 2))) (mTup (mCons (mVar 9) (ret [])))) (ret []))))))
  (mSeq (mSet 4 (mTup (mCons (mOp dAdd (mOp dIx (mVar 4) (ret (.int 0))) (mTup (mCons (mVar 10) (ret [])))) (mCons (mCa gTuple (mCons (mComp [12, 13] (mZip (mCons (mOp dIx (mVar 4) (ret (.int 1))) (mCons (mVar 11) (ret [])))) (gTupM 2 (gConsM (setS 12) (gConsM (setS 13) gNilM))) mYes (mOp dAdd (mVar 12) (mTup (mCons (mVar 13) (ret []))))) (ret []))) (mCons (mOp dIx (mVar 4) (ret (.int 2))) (ret []))))))
  (mRet (mOp dAdd (mOp dAdd (mSl (mVar 1) (mPart none) (mPart (some (mOp dSub (mVar 2) (ret (.int 1)))))) (mTup (mCons (mVar 3) (mCons (mVar 4) (ret []))))) (mSl (mVar 1) (mPart (some (mOp dAdd (mVar 2) (ret (.int 1))))) (mPart none)))))))))))
def mir__law_padded : List D → Rs := mDef 3 14 true false body__law_padded
def body__law_some : M Fl :=
  (mSeq (mSet 2 (mCallI 0 mir__law_draw (mCons (ret (.int 4)) (ret []))))
  (mSeq (mIf (mB (mOp (dEq false) (mVar 2) (ret (.int 3)))) (mRet (mCallI 0 mir__law_wide (mCons (mVar 1) (mCons (ret (.int 3)) (ret []))))) mNx)
  (mSeq (mSet 3 (mCallI 0 mir__law_least (mCons (mVar 1) (ret []))))
  (mSeq (mFor (mRange1 (mCons (mVar 2) (ret []))) (setS 4) (mIf (mB (mOp (dCmp pGt) (mVar 1) (ret (.int 1)))) (mSet 3 (mCallI 0 mir__law_padded (mCons (mVar 3) (mCons (mOp dAdd (ret (.int 1)) (mCallI 0 mir__law_draw (mCons (mOp dSub (mVar 1) (ret (.int 1))) (ret [])))) (ret []))))) mNx))
  (mRet (mVar 3))))))
def mir__law_some : List D → Rs := mDef 2 5 true false body__law_some
def body__law_go : M Fl :=
  (mRet (mCa gTuple (mCons (mComp [2] (mItems (mVar 0)) (setS 2) mYes (mCall mir__law_dot (mCons (mVar 2) (mCons (mVar 1) (ret []))))) (ret []))))
def mir__law_go : List D → Rs := mDef 2 3 false false body__law_go
def body__law_plus : M Fl :=
  (mRet (mCall mir__law_lean (mCons (mOp dAdd (mOp dMul (mOp dIx (mVar 0) (ret (.int 0))) (mOp dIx (mVar 1) (ret (.int 1)))) (mOp dMul (mOp dIx (mVar 1) (ret (.int 0))) (mOp dIx (mVar 0) (ret (.int 1))))) (mCons (mOp dMul (mOp dIx (mVar 0) (ret (.int 1))) (mOp dIx (mVar 1) (ret (.int 1)))) (ret [])))))
def mir__law_plus : List D → Rs := mDef 2 2 false false body__law_plus
def body__law_times : M Fl :=
  (mRet (mCall mir__law_lean (mCons (mOp dMul (mOp dIx (mVar 0) (ret (.int 0))) (mOp dIx (mVar 1) (ret (.int 0)))) (mCons (mOp dMul (mOp dIx (mVar 0) (ret (.int 1))) (mOp dIx (mVar 1) (ret (.int 1)))) (ret [])))))
def mir__law_times : List D → Rs := mDef 2 2 false false body__law_times
def body__law_walked : M Fl :=
  (mSeq (mPar 2 3 (mCons (mTup (ret [])) (mConsO (mLst (ret [])) (ret []))))
  (mSeq (mFor (mZip (mCons (mVar 0) (mCons (mVar 1) (ret [])))) (gTupM 2 (gConsM (setS 4) (gConsM (setS 5) gNilM))) (mSeq (mApp 3 (mCall mir__law_dot (mCons (mOp dIx (mVar 4) (ret (.int 0))) (mCons (mVar 2) (ret [])))))
  (mSeq (mSet 6 (mCall mir__law_go (mCons (mOp dIx (mVar 4) (ret (.int 1))) (mCons (mVar 2) (ret [])))))
  (mSet 2 (mCa gTuple (mCons (mComp [7, 8] (mZip (mCons (mVar 6) (mCons (mOp dIx (mVar 4) (ret (.int 2))) (ret [])))) (gTupM 2 (gConsM (setS 7) (gConsM (setS 8) gNilM))) mYes (mCall mir__law_plus (mCons (mVar 7) (mCons (mCall mir__law_times (mCons (mVar 8) (mCons (mVar 5) (ret [])))) (ret []))))) (ret [])))))))
  (mRet (mTupS 3))))
def mir__law_walked : List D → Rs := mDef 2 9 false false body__law_walked
def body__law_places : M Fl :=
  (mRet (mOp dIx (mTup (mCons (ret (.int 3)) (mCons (ret (.int 2)) (mCons (ret (.int 4)) (mCons (ret (.int 3)) (mCons (ret (.int 2)) (mCons (ret (.int 5)) (mCons (ret (.int 3)) (mCons (ret (.int 1)) (mCons (ret (.int 4)) (mCons (ret (.int 3)) (mCons (ret (.int 6)) (mCons (ret (.int 2)) (ret [])))))))))))))) (mCallI 0 mir__law_draw (mCons (ret (.int 12)) (ret [])))))
def mir__law_places : List D → Rs := mDef 1 1 true false body__law_places
def body__law_led : M Fl :=
  (mSeq (mSet 3 (mOp dIx (mOp dIx (mVar 0) (mVar 1)) (ret (.int 2))))
  (mSeq (mFor (mRange2 (mCons (mOp dAdd (mVar 1) (ret (.int 1))) (mCons (mVar 2) (ret [])))) (setS 4) (mSet 3 (mCall mir__law_go (mCons (mOp dIx (mOp dIx (mVar 0) (mVar 4)) (ret (.int 1))) (mCons (mVar 3) (ret []))))))
  (mRet (mVar 3))))
def mir__law_led : List D → Rs := mDef 3 5 false false body__law_led
def body__law_below : M Fl :=
  (mSeq (mSet 1 (mLst (ret [])))
  (mSeq (mFor (mRange1 (mCons (mCa gLen (mCons (mVar 0) (ret []))) (ret []))) (setS 2) (mSeq (mSet 3 (mComp [4] (mRange1 (mCons (mVar 2) (ret []))) (setS 4) mYes (mCall mir__law_dot (mCons (mOp dIx (mOp dIx (mVar 0) (mVar 2)) (ret (.int 0))) (mCons (mCall mir__law_led (mCons (mVar 0) (mCons (mVar 4) (mCons (mVar 2) (ret []))))) (ret []))))))
  (mApp 1 (mOp dAdd (mCa gTuple (mCons (mVar 3) (ret []))) (mOp dMul (mTup (mCons (mTup (mCons (ret (.int 0)) (mCons (ret (.int 1)) (ret [])))) (ret []))) (mOp dSub (mCa gLen (mCons (mVar 0) (ret []))) (mVar 2)))))))
  (mRet (mTupS 1))))
def mir__law_below : List D → Rs := mDef 1 5 false false body__law_below
def body__is_triple : M Fl :=
  (mSeq (mIf (mNot (mTruth (mCall mir_is_tuple_of (mCons (mVar 0) (mCons (ret (.int 3)) (ret [])))))) (mRet (ret (.bool false))) mNx)
  (mSeq (mAsg (mVar 0) (gTupM 3 (gConsM (setS 2) (gConsM (setS 3) (gConsM (setS 4) gNilM)))))
  (mSeq (mIf (mNot (mTruth (mCall mir_is_row (mCons (mVar 2) (mCons (mVar 1) (ret [])))))) (mRet (ret (.bool false))) mNx)
  (mSeq (mIf (mOr (mNot (mTruth (mIsi "tuple" (mVar 4)))) (mOr (mB (mOp (dCmp pGt) (mCa gLen (mCons (mVar 4) (ret []))) (ret (.int 6)))) (mNot (mTruth (mCall mir_is_row (mCons (mVar 4) (mCons (mCa gLen (mCons (mVar 4) (ret []))) (ret [])))))))) (mRet (ret (.bool false))) mNx)
  (mRet (mAndV (mCall mir_is_tuple_of (mCons (mVar 3) (mCons (mCa gLen (mCons (mVar 4) (ret []))) (ret [])))) (mAllG [5] (mItems (mVar 3)) (setS 5) (mCall mir_is_row (mCons (mVar 5) (mCons (mVar 1) (ret [])))))))))))
def mir__is_triple : List D → Rs := mDef 2 6 false false body__is_triple
def body__wrong_place : M Fl :=
  (mSeq (mSet 1 (ret (.int 0)))
  (mSeq (mFor (mEnum (mCons (mVar 0) (ret []))) (gTupM 2 (gConsM (setS 2) (gConsM (setS 3) gNilM))) (mSeq (mIf (mNot (mTruth (mCall mir__is_triple (mCons (mVar 3) (mCons (mVar 1) (ret [])))))) (mRet (mVar 2)) mNx)
  (mSet 1 (mCa gLen (mCons (mOp dIx (mVar 3) (ret (.int 2))) (ret []))))))
  (mSeq (mIf (mB (mOp (dCmp pGt) (mVar 1) (ret (.int 0)))) (mRet (mOp dSub (mCa gLen (mCons (mVar 0) (ret []))) (ret (.int 1)))) mNx)
  (mRet (ret .none)))))
def mir__wrong_place : List D → Rs := mDef 1 4 false false body__wrong_place
def body__has_places : M Fl :=
  (mRet (mAndV (mIsi "tuple" (mVar 0)) (mChain (dCmp pLe) (dCmp pLe) (ret (.int 1)) (mCa gLen (mCons (mVar 0) (ret []))) (ret (.int 6)))))
def mir__has_places : List D → Rs := mDef 1 1 false false body__has_places
def body_check_carrier : M Fl :=
  (mSeq (mIf (mNot (mTruth (mCall mir__has_places (mCons (mVar 0) (ret []))))) bad mNx)
  (mSeq (mSet 1 (mCall mir__wrong_place (mCons (mVar 0) (ret []))))
  (mIf (mB (mOp (dIs true) (mVar 1) (ret .none))) bad mNx)))
def mir_check_carrier : List D → Rs := mDef 1 2 false false body_check_carrier
def body_check_row : M Fl :=
  (mSeq (mIf (mNot (mTruth (mCall mir_is_tuple_of (mCons (mVar 0) (mCons (mVar 1) (ret [])))))) bad mNx)
  (mFor (mEnum (mCons (mVar 0) (ret []))) (gTupM 2 (gConsM (setS 2) (gConsM (setS 3) gNilM))) (mIf (mNot (mTruth (mCall mir_is_fraction (mCons (mVar 3) (ret []))))) bad mNx)))
def mir_check_row : List D → Rs := mDef 2 4 false false body_check_row
def body_carry : M Fl :=
  (mSeq (mDrop (mCall mir_check_carrier (mCons (mVar 0) (ret []))))
  (mSeq (mDrop (mCall mir_check_row (mCons (mVar 1) (mCons (mCa gLen (mCons (mVar 0) (ret []))) (ret [])))))
  (mSeq (mSet 2 (mLst (ret [])))
  (mSeq (mSet 3 (mTup (ret [])))
  (mSeq (mFor (mZip (mCons (mVar 1) (mCons (mVar 0) (ret [])))) (gTupM 2 (gConsM (setS 4) (gConsM (gTupM 3 (gConsM (setS 5) (gConsM (setS 6) (gConsM (setS 7) gNilM)))) gNilM))) (mSeq (mApp 2 (mCall mir_dot (mCons (mVar 5) (mCons (mVar 3) (ret [])))))
  (mSeq (mSet 8 (mTup (mStar (mVar 3) (mCons (mVar 4) (ret [])))))
  (mSet 3 (mCa gTuple (mCons (mComp [9, 10] (mZip (mCons (mVar 6) (mCons (mVar 7) (ret [])))) (gTupM 2 (gConsM (setS 9) (gConsM (setS 10) gNilM))) mYes (mCall mir_dot (mCons (mTup (mStar (mVar 9) (mCons (mVar 10) (ret [])))) (mCons (mVar 8) (ret []))))) (ret [])))))))
  (mRet (mTupS 2)))))))
def mir_carry : List D → Rs := mDef 2 11 false false body_carry
def body__coming_columns : M Fl :=
  (mSeq (mSet 1 (mLst (ret [])))
  (mSeq (mSet 2 (mTup (ret [])))
  (mSeq (mFor (mItems (mVar 0)) (gTupM 3 (gConsM (setS 3) (gConsM (setS 4) (gConsM (setS 5) gNilM)))) (mSeq (mApp 1 (mVar 2))
  (mSet 2 (mTup (mStar (mComp [6] (mItems (mVar 2)) (setS 6) mYes (mCall mir_applied (mCons (mVar 4) (mCons (mVar 6) (ret []))))) (mCons (mVar 5) (ret [])))))))
  (mRet (mFrz 1)))))
def mir__coming_columns : List D → Rs := mDef 1 7 false true body__coming_columns
def body_carried : M Fl :=
  (mSeq (mDrop (mCall mir_check_carrier (mCons (mVar 0) (ret []))))
  (mSeq (mSet 1 (mCa gLen (mCons (mVar 0) (ret []))))
  (mSeq (mSet 2 (mLst (ret [])))
  (mSeq (mFor (mEnum (mCons (mCall mir__coming_columns (mCons (mVar 0) (ret []))) (ret []))) (gTupM 2 (gConsM (setS 3) (gConsM (setS 4) gNilM))) (mApp 2 (mOp dAdd (mCall mir_applied (mCons (mVar 4) (mCons (mOp dIx (mOp dIx (mVar 0) (mVar 3)) (ret (.int 0))) (ret [])))) (mOp dMul (mTup (mCons (ret (.tuple (List.map PyData.int [0, 1]))) (ret []))) (mOp dSub (mVar 1) (mVar 3))))))
  (mRet (mTupS 2))))))
def mir_carried : List D → Rs := mDef 1 5 false false body_carried
def body__law_right_v2 : M Fl :=
  (mSeq (mSet 1 (mCallI 0 mir__law_some (mCons (mCallI 0 mir__law_places (ret [])) (ret []))))
  (mSeq (mSet 2 (mCa gLen (mCons (mVar 1) (ret []))))
  (mSeq (mAsg (mTup (mCons (mCallI 0 mir__law_line (mCons (mVar 2) (ret []))) (mCons (mCallI 0 mir__law_draw (mCons (mVar 2) (ret []))) (mCons (mCall mir__law_below (mCons (mVar 1) (ret []))) (ret []))))) (gTupM 3 (gConsM (setS 3) (gConsM (setS 4) (gConsM (setS 5) gNilM)))))
  (mSeq (mSet 6 (mCall mir__law_walked (mCons (mVar 1) (mCons (mVar 3) (ret [])))))
  (mSeq (mIf (mNot (mTruth (mCall (mir__law_same 8) (mCons (mTup (mCons (mCall mir_carry (mCons (mVar 1) (mCons (mVar 3) (ret [])))) (mCons (mCallKW [1, 0] mir_carry (mCons (mVar 3) (mCons (mVar 1) (ret [])))) (mCons (mCall mir_carried (mCons (mVar 1) (ret []))) (ret []))))) (mCons (mTup (mCons (mVar 6) (mCons (mVar 6) (mCons (mVar 5) (ret []))))) (ret [])))))) (mRet (ret (.bool false))) mNx)
  (mSeq (mSet 7 (mOp dAdd (mOp dAdd (mOp dMul (mTup (mCons (mTup (mCons (ret (.int 0)) (mCons (ret (.int 1)) (ret [])))) (ret []))) (mVar 4)) (mTup (mCons (mTup (mCons (ret (.int 1)) (mCons (ret (.int 1)) (ret [])))) (ret [])))) (mOp dMul (mTup (mCons (mTup (mCons (ret (.int 0)) (mCons (ret (.int 1)) (ret [])))) (ret []))) (mOp dSub (mOp dSub (mVar 2) (ret (.int 1))) (mVar 4)))))
  (mRet (mAndV (mOp (dEq false) (mCall mir__law_go (mCons (mVar 5) (mCons (mVar 3) (ret [])))) (mVar 6)) (mCall (mir__law_same 8) (mCons (mCall mir_carry (mCons (mVar 1) (mCons (mVar 7) (ret [])))) (mCons (mCa gTuple (mCons (mComp [8] (mItems (mVar 5)) (setS 8) mYes (mOp dIx (mVar 8) (mVar 4))) (ret []))) (ret []))))))))))))
def mir__law_right_v2 : List D → Rs := mDef 1 9 true false body__law_right_v2
def body__law_well_v2 : M Fl :=
  (mSeq (mSet 2 (mOp dAdd (ret (.int 420612)) (mOp dMul (ret (.int 7129)) (mVar 1))))
  (mSeq (mFor (mItems (mSl (mVar 0) (mPart none) (mPart (some (ret (.int 9)))))) (setS 3) (mSet 2 (mOp dMod (mCa (gI1 fun i => i) (mCons (mOp dAdd (mOp dAdd (mOp dMul (mVar 2) (ret (.int 47123))) (mOp dMod (mCa (gI1 fun i => i) (mCons (mVar 3) (ret []))) (ret (.int 2147483587)))) (ret (.int 5))) (ret []))) (ret (.int 2147483563)))))
  (mSeq (mSet 4 (mIf (mB (mOp (dCmp pLt) (mVar 1) (mCa gLen (mCons (mVar 0) (ret []))))) (mCa (gI1 fun i => i) (mCons (mOp dIx (mVar 0) (mVar 1)) (ret []))) (ret (.int 0))))
  (mSeq (mSet 2 (mOp dMod (mCa (gI1 fun i => i) (mCons (mOp dAdd (mOp dAdd (mOp dMul (mVar 2) (ret (.int 43))) (mOp dMul (mOp dMod (mCa (gI1 fun i => i) (mCons (mVar 4) (ret []))) (ret (.int 2147483587))) (ret (.int 20011)))) (ret (.int 7))) (ret []))) (ret (.int 2147483563))))
  (mRet (mLst (mCons (mIf (mOr (mB (mOp (dCmp pLt) (mVar 4) (ret (.int 0)))) (mB (mOp (dCmp pGe) (mVar 4) (mOp dPow (ret (.int 10)) (ret (.int 14)))))) (mCa (gI1 iAbs) (mCons (mVar 4) (ret []))) (ret (.int 0))) (mCons (mVar 2) (mCons (ret (.int 0)) (mCons (ret (.int 1)) (ret [])))))))))))
def mir__law_well_v2 : List D → Rs := mDef 2 5 false true body__law_well_v2
def body_law_v2 : M Fl :=
  (mRet (mCa dAll (mCons (mComp [1] (mRange1 (mCons (mCa (gI2 iMax) (mCons (ret (.int 2)) (mCons (mCa (gI2 iMin) (mCons (mCa gLen (mCons (mVar 0) (ret []))) (mCons (ret (.int 3)) (ret [])))) (ret [])))) (ret []))) (setS 1) mYes (mCallT mir__law_right_v2 (mCall mir__law_well_v2 (mCons (mVar 0) (mCons (mVar 1) (ret [])))))) (ret []))))
def mir_law_v2 : List D → Rs := mDef 1 2 false false body_law_v2
def body__first_row : M Fl :=
  (mSeq (mFor (mRange2 (mCons (mVar 1) (mCons (mCa gLen (mCons (mVar 0) (ret []))) (ret [])))) (setS 3) (mIf (mB (mOp dNe (mOp dIx (mOp dIx (mVar 0) (mVar 3)) (mVar 2)) (ret (.int 0)))) (mRet (mVar 3)) mNx))
  (mRet (ret .none)))
def mir__first_row : List D → Rs := mDef 3 4 false false body__first_row
def body__less_multiple : M Fl :=
  (mSeq (mPar 4 5 (mCons (mOp dIx (mVar 1) (mVar 2)) (mCons (mOp dIx (mVar 0) (mVar 2)) (ret []))))
  (mRet (mComp [6, 7] (mZip (mCons (mVar 0) (mCons (mVar 1) (ret [])))) (gTupM 2 (gConsM (setS 6) (gConsM (setS 7) gNilM))) mYes (mOp dDivP (mOp dSub (mOp dMul (mVar 4) (mVar 6)) (mOp dMul (mVar 5) (mVar 7))) (mVar 3)))))
def mir__less_multiple : List D → Rs := mDef 4 8 false true body__less_multiple
def body__cleared : M Fl :=
  (mSeq (mSet 4 (mLst (ret [])))
  (mSeq (mFor (mEnum (mCons (mVar 0) (ret []))) (gTupM 2 (gConsM (setS 5) (gConsM (setS 6) gNilM))) (mIf (mB (mOp (dEq false) (mVar 5) (mVar 1))) (mApp 4 (mVar 6)) (mApp 4 (mCall mir__less_multiple (mCons (mVar 6) (mCons (mOp dIx (mVar 0) (mVar 1)) (mCons (mVar 2) (mCons (mVar 3) (ret [])))))))))
  (mRet (mFrz 4))))
def mir__cleared : List D → Rs := mDef 4 7 false true body__cleared
def body__moved_up : M Fl :=
  (mSeq (mSet 3 (mListOf (mVar 0)))
  (mSeq (mAsg (mOp dIx (mVar 0) (mVar 1)) (gPut 3 (mVar 2)))
  (mSeq (mIf (mB (mOp dNe (mVar 1) (mVar 2))) (mAsg (mComp [4] (mItems (mOp dIx (mVar 0) (mVar 2))) (setS 4) mYes (mNeg (mVar 4))) (gPut 3 (mVar 1))) mNx)
  (mRet (mFrz 3)))))
def mir__moved_up : List D → Rs := mDef 3 5 false true body__moved_up
def body_swept : M Fl :=
  (mSeq (mSet 2 (mLst (ret [])))
  (mSeq (mSet 3 (ret (.int 1)))
  (mSeq (mFor (mRange1 (mCons (mVar 1) (ret []))) (setS 4) (mSeq (mSet 5 (mLenS 2))
  (mSeq (mSet 6 (mCall mir__first_row (mCons (mVar 0) (mCons (mVar 5) (mCons (mVar 4) (ret []))))))
  (mIf (mB (mOp (dIs true) (mVar 6) (ret .none))) (mSeq (mSet 0 (mCall mir__cleared (mCons (mCall mir__moved_up (mCons (mVar 0) (mCons (mVar 6) (mCons (mVar 5) (ret []))))) (mCons (mVar 5) (mCons (mVar 4) (mCons (mVar 3) (ret [])))))))
  (mSeq (mSet 3 (mOp dIx (mOp dIx (mVar 0) (mVar 5)) (mVar 4)))
  (mApp 2 (mVar 4)))) mNx))))
  (mRet (mTup (mCons (mVar 0) (mCons (mFrz 2) (mCons (mVar 3) (ret [])))))))))
def mir_swept : List D → Rs := mDef 2 7 false false body_swept
def body_whole_rows : M Fl :=
  (mSeq (mSet 1 (mLst (ret [])))
  (mSeq (mSet 2 (ret (.int 1)))
  (mSeq (mFor (mItems (mVar 0)) (setS 3) (mSeq (mSet 4 (ret (.int 1)))
  (mSeq (mFor (mItems (mVar 3)) (setS 5) (mSet 4 (mCa gLcmP (mCons (mVar 4) (mCons (mOp dIx (mVar 5) (ret (.int 1))) (ret []))))))
  (mSeq (mApp 1 (mComp [6, 7] (mItems (mVar 3)) (gTupM 2 (gConsM (setS 6) (gConsM (setS 7) gNilM))) mYes (mOp dMul (mVar 6) (mOp dDivP (mVar 4) (mVar 7)))))
  (mSet 2 (mOp dMul (mVar 2) (mVar 4)))))))
  (mRet (mTup (mCons (mFrz 1) (mCons (mVar 2) (ret []))))))))
def mir_whole_rows : List D → Rs := mDef 1 8 false false body_whole_rows
def body_free_places : M Fl :=
  (mRet (mOp dIx (mCall mir_swept (mCons (mOp dIx (mCall mir_whole_rows (mCons (mVar 0) (ret []))) (ret (.int 0))) (mCons (mVar 1) (ret [])))) (ret (.int 1))))
def mir_free_places : List D → Rs := mDef 2 2 false false body_free_places
def body_regular_part : M Fl :=
  (mSeq (mDrop (mCall mir_check_part (mCons (mVar 0) (mCons (mVar 1) (mCons (mVar 2) (ret []))))))
  (mSeq (mSet 3 (mCall mir_numbers_at (mCons (mVar 0) (mCons (mVar 1) (mCons (mVar 2) (ret []))))))
  (mSeq (mSet 4 (mCall mir_free_places (mCons (mVar 3) (mCons (mCa gLen (mCons (mVar 2) (ret []))) (ret [])))))
  (mSeq (mSet 5 (mCall mir_free_places (mCons (mCall mir_columns_at (mCons (mVar 3) (mCons (mVar 4) (ret [])))) (mCons (mCa gLen (mCons (mVar 1) (ret []))) (ret [])))))
  (mRet (mTup (mCons (mTupG [6] (mItems (mVar 5)) (setS 6) (mOp dIx (mVar 1) (mVar 6))) (mCons (mTupG [6] (mItems (mVar 4)) (setS 6) (mOp dIx (mVar 2) (mVar 6))) (ret [])))))))))
def mir_regular_part : List D → Rs := mDef 3 7 false false body_regular_part
def body_row_rank : M Fl :=
  (mSeq (mIf (mNot (mTruth (mVar 0))) (mRet (ret (.int 0))) mNx)
  (mRet (mCa gLen (mCons (mCall mir_free_places (mCons (mVar 0) (mCons (mCa gLen (mCons (mOp dIx (mVar 0) (ret (.int 0))) (ret []))) (ret [])))) (ret [])))))
def mir_row_rank : List D → Rs := mDef 1 1 false false body_row_rank
def body_part_rank : M Fl :=
  (mSeq (mDrop (mCall mir_check_part (mCons (mVar 0) (mCons (mVar 1) (mCons (mVar 2) (ret []))))))
  (mRet (mCall mir_row_rank (mCons (mCall mir_numbers_at (mCons (mVar 0) (mCons (mVar 1) (mCons (mVar 2) (ret []))))) (ret [])))))
def mir_part_rank : List D → Rs := mDef 3 3 false false body_part_rank
def body_nullity : M Fl :=
  (mSeq (mDrop (mCall mir_check_part (mCons (mVar 0) (mCons (mVar 1) (mCons (mVar 2) (ret []))))))
  (mRet (mOp dSub (mCa gLen (mCons (mVar 2) (ret []))) (mCall mir_row_rank (mCons (mCall mir_numbers_at (mCons (mVar 0) (mCons (mVar 1) (mCons (mVar 2) (ret []))))) (ret []))))))
def mir_nullity : List D → Rs := mDef 3 3 false false body_nullity
def body__law_is_lot : M Fl :=
  (mSeq (mIf (mOr (mNot (mTruth (mIsi "tuple" (mVar 0)))) (mNot (mTruth (mCa dAll (mCons (mComp [2] (mItems (mVar 0)) (setS 2) mYes (mAndV (mCall mir__law_is_whole (mCons (mVar 2) (ret []))) (mChain (dCmp pLe) (dCmp pLt) (ret (.int 0)) (mVar 2) (mVar 1)))) (ret [])))))) (mRet (ret (.bool false))) mNx)
  (mRet (mCa dAll (mCons (mComp [3, 4] (mZip (mCons (mVar 0) (mCons (mSl (mVar 0) (mPart (some (ret (.int 1)))) (mPart none)) (ret [])))) (gTupM 2 (gConsM (setS 3) (gConsM (setS 4) gNilM))) mYes (mOp (dCmp pLt) (mVar 3) (mVar 4))) (ret [])))))
def mir__law_is_lot : List D → Rs := mDef 2 5 false false body__law_is_lot
def body__law_is_core : M Fl :=
  (mSeq (mIf (mOr (mNot (mTruth (mIsi "tuple" (mVar 3)))) (mB (mOp dNe (mCa gLen (mCons (mVar 3) (ret []))) (ret (.int 2))))) (mRet (ret (.bool false))) mNx)
  (mSeq (mAsg (mVar 3) (gTupM 2 (gConsM (setS 4) (gConsM (setS 5) gNilM))))
  (mSeq (mIf (mOr (mNot (mTruth (mCall mir__law_is_lot (mCons (mVar 4) (mCons (mCa gLen (mCons (mVar 0) (ret []))) (ret [])))))) (mNot (mTruth (mCall mir__law_is_lot (mCons (mVar 5) (mCons (mCa gLen (mCons (mOp dIx (mVar 0) (ret (.int 0))) (ret []))) (ret []))))))) (mRet (ret (.bool false))) mNx)
  (mSeq (mIf (mOr (mNot (mTruth (mCa dAll (mCons (mComp [6] (mItems (mVar 4)) (setS 6) mYes (mOp (dIn false) (mVar 6) (mVar 1))) (ret []))))) (mNot (mTruth (mCa dAll (mCons (mComp [6] (mItems (mVar 5)) (setS 6) mYes (mOp (dIn false) (mVar 6) (mVar 2))) (ret [])))))) (mRet (ret (.bool false))) mNx)
  (mSeq (mSet 7 (mCall mir__law_rank (mCons (mCall mir__law_piece (mCons (mVar 0) (mCons (mVar 1) (mCons (mVar 2) (ret []))))) (ret []))))
  (mRet (mAndV (mOp (dEq false) (mCa gLen (mCons (mVar 4) (ret []))) (mVar 7)) (mAndV (mOp (dEq false) (mCa gLen (mCons (mVar 5) (ret []))) (mVar 7)) (mOp (dEq false) (mCall mir__law_rank (mCons (mCall mir__law_piece (mCons (mVar 0) (mCons (mVar 4) (mCons (mVar 5) (ret []))))) (ret []))) (mVar 7))))))))))
def mir__law_is_core : List D → Rs := mDef 4 8 false false body__law_is_core
def body__law_is_pair : M Fl :=
  (mSeq (mSet 2 (mCall mir__law_rank (mCons (mVar 0) (ret []))))
  (mSeq (mIf (mB (mOp (dEq false) (mVar 2) (ret (.int 0)))) (mRet (mOp (dIs false) (mVar 1) (ret .none))) mNx)
  (mSeq (mIf (mOr (mNot (mTruth (mIsi "tuple" (mVar 1)))) (mB (mOp dNe (mCa gLen (mCons (mVar 1) (ret []))) (ret (.int 2))))) (mRet (ret (.bool false))) mNx)
  (mSeq (mIf (mOr (mNot (mTruth (mCall mir__law_is_grid (mCons (mOp dIx (mVar 1) (ret (.int 0))) (mCons (mCa gLen (mCons (mVar 0) (ret []))) (mCons (mVar 2) (ret []))))))) (mNot (mTruth (mCall mir__law_is_grid (mCons (mOp dIx (mVar 1) (ret (.int 1))) (mCons (mVar 2) (mCons (mCa gLen (mCons (mOp dIx (mVar 0) (ret (.int 0))) (ret []))) (ret [])))))))) (mRet (ret (.bool false))) mNx)
  (mRet (mOp (dEq false) (mCall mir__law_mul (mCons (mOp dIx (mVar 1) (ret (.int 0))) (mCons (mOp dIx (mVar 1) (ret (.int 1))) (ret [])))) (mVar 0)))))))
def mir__law_is_pair : List D → Rs := mDef 2 3 false false body__law_is_pair
def body_reduced : M Fl :=
  (mSeq (mAsg (mCall mir_swept (mCons (mOp dIx (mCall mir_whole_rows (mCons (mVar 0) (ret []))) (ret (.int 0))) (mCons (mVar 1) (ret [])))) (gTupM 3 (gConsM (setS 2) (gConsM (setS 3) (gConsM (setS 4) gNilM)))))
  (mSeq (mSet 5 (mSl (mVar 2) (mPart none) (mPart (some (mCa gLen (mCons (mVar 3) (ret [])))))))
  (mRet (mTup (mCons (mTupG [7] (mItems (mVar 5)) (setS 7) (mTupG [6] (mItems (mVar 7)) (setS 6) (mCall mir_fraction (mCons (mVar 6) (mCons (mVar 4) (ret [])))))) (mCons (mVar 3) (ret [])))))))
def mir_reduced : List D → Rs := mDef 2 8 false false body_reduced
def body_rank_pair : M Fl :=
  (mSeq (mDrop (mCall mir_check_table (mCons (mVar 0) (ret []))))
  (mSeq (mAsg (mCall mir_reduced (mCons (mVar 0) (mCons (mCa gLen (mCons (mOp dIx (mVar 0) (ret (.int 0))) (ret []))) (ret [])))) (gTupM 2 (gConsM (setS 1) (gConsM (setS 2) gNilM))))
  (mSeq (mIf (mNot (mTruth (mVar 2))) (mRet (ret .none)) mNx)
  (mRet (mTup (mCons (mCall mir_numbers_at (mCons (mVar 0) (mCons (mListRg (mCa gLen (mCons (mVar 0) (ret [])))) (mCons (mVar 2) (ret []))))) (mCons (mVar 1) (ret []))))))))
def mir_rank_pair : List D → Rs := mDef 1 3 false false body_rank_pair
def body_rank_of : M Fl :=
  (mSeq (mDrop (mCall mir_check_table (mCons (mVar 0) (ret []))))
  (mRet (mCall mir_row_rank (mCons (mVar 0) (ret [])))))
def mir_rank_of : List D → Rs := mDef 1 1 false false body_rank_of
def body__law_right_v4 : M Fl :=
  (mSeq (mPar 1 2 (mCons (mCallI 0 mir__law_many (ret [])) (mCons (mCallI 0 mir__law_many (ret [])) (ret []))))
  (mSeq (mSet 3 (mCallI 0 mir__law_any (mCons (mVar 1) (mCons (mVar 2) (ret [])))))
  (mSeq (mPar 4 5 (mCons (mCallI 0 mir__law_lot (mCons (mVar 1) (ret []))) (mCons (mCallI 0 mir__law_lot (mCons (mVar 2) (ret []))) (ret []))))
  (mSeq (mIf (mB (mOp (dEq false) (mCallI 0 mir__law_draw (mCons (ret (.int 3)) (ret []))) (ret (.int 0)))) (mSet 4 (mTupRg (mCons (mVar 1) (ret [])))) mNx)
  (mSeq (mSet 6 (mCall mir__law_rank (mCons (mCall mir__law_piece (mCons (mVar 3) (mCons (mVar 4) (mCons (mVar 5) (ret []))))) (ret []))))
  (mSeq (mSet 7 (mTup (mCons (mCall mir_part_rank (mCons (mVar 3) (mCons (mVar 4) (mCons (mVar 5) (ret []))))) (mCons (mCallKW [2, 1, 0] mir_part_rank (mCons (mVar 5) (mCons (mVar 4) (mCons (mVar 3) (ret []))))) (ret [])))))
  (mSeq (mIf (mNot (mTruth (mCall (mir__law_same 8) (mCons (mOp dAdd (mTup (mCons (mCall mir_rank_of (mCons (mVar 3) (ret []))) (mCons (mCallKW [0] mir_rank_of (mCons (mVar 3) (ret []))) (ret [])))) (mVar 7)) (mCons (mOp dAdd (mOp dMul (mTup (mCons (mCall mir__law_rank (mCons (mVar 3) (ret []))) (ret []))) (ret (.int 2))) (mOp dMul (mTup (mCons (mVar 6) (ret []))) (ret (.int 2)))) (ret [])))))) (mRet (ret (.bool false))) mNx)
  (mSeq (mSet 7 (mTup (mCons (mCall mir_nullity (mCons (mVar 3) (mCons (mVar 4) (mCons (mVar 5) (ret []))))) (mCons (mCallKW [1, 0, 2] mir_nullity (mCons (mVar 4) (mCons (mVar 3) (mCons (mVar 5) (ret []))))) (ret [])))))
  (mSeq (mIf (mNot (mTruth (mCall (mir__law_same 8) (mCons (mVar 7) (mCons (mOp dMul (mTup (mCons (mOp dSub (mCa gLen (mCons (mVar 5) (ret []))) (mVar 6)) (ret []))) (ret (.int 2))) (ret [])))))) (mRet (ret (.bool false))) mNx)
  (mSeq (mIf (mOr (mNot (mTruth (mCall mir__law_is_pair (mCons (mVar 3) (mCons (mCall mir_rank_pair (mCons (mVar 3) (ret []))) (ret [])))))) (mNot (mTruth (mCall (mir__law_same 8) (mCons (mCallKW [0] mir_rank_pair (mCons (mVar 3) (ret []))) (mCons (mCall mir_rank_pair (mCons (mVar 3) (ret []))) (ret []))))))) (mRet (ret (.bool false))) mNx)
  (mSeq (mSet 8 (mCall mir_regular_part (mCons (mVar 3) (mCons (mVar 4) (mCons (mVar 5) (ret []))))))
  (mRet (mAndV (mCall mir__law_is_core (mCons (mVar 3) (mCons (mVar 4) (mCons (mVar 5) (mCons (mVar 8) (ret [])))))) (mCall (mir__law_same 8) (mCons (mCallKW [1, 2, 0] mir_regular_part (mCons (mVar 5) (mCons (mVar 3) (mCons (mVar 4) (ret []))))) (mCons (mVar 8) (ret [])))))))))))))))))
def mir__law_right_v4 : List D → Rs := mDef 1 9 true false body__law_right_v4
def body__law_well_v4 : M Fl :=
  (mSeq (mSet 2 (mOp dAdd (ret (.int 520759)) (mOp dMul (ret (.int 7129)) (mVar 1))))
  (mSeq (mFor (mItems (mSl (mVar 0) (mPart none) (mPart (some (ret (.int 9)))))) (setS 3) (mSet 2 (mOp dMod (mCa (gI1 fun i => i) (mCons (mOp dAdd (mOp dAdd (mOp dMul (mVar 2) (ret (.int 47123))) (mOp dMod (mCa (gI1 fun i => i) (mCons (mVar 3) (ret []))) (ret (.int 2147483587)))) (ret (.int 5))) (ret []))) (ret (.int 2147483563)))))
  (mSeq (mSet 4 (mIf (mB (mOp (dCmp pLt) (mVar 1) (mCa gLen (mCons (mVar 0) (ret []))))) (mCa (gI1 fun i => i) (mCons (mOp dIx (mVar 0) (mVar 1)) (ret []))) (ret (.int 0))))
  (mSeq (mSet 2 (mOp dMod (mCa (gI1 fun i => i) (mCons (mOp dAdd (mOp dAdd (mOp dMul (mVar 2) (ret (.int 43))) (mOp dMul (mOp dMod (mCa (gI1 fun i => i) (mCons (mVar 4) (ret []))) (ret (.int 2147483587))) (ret (.int 20011)))) (ret (.int 7))) (ret []))) (ret (.int 2147483563))))
  (mRet (mLst (mCons (mIf (mOr (mB (mOp (dCmp pLt) (mVar 4) (ret (.int 0)))) (mB (mOp (dCmp pGe) (mVar 4) (mOp dPow (ret (.int 10)) (ret (.int 14)))))) (mCa (gI1 iAbs) (mCons (mVar 4) (ret []))) (ret (.int 0))) (mCons (mVar 2) (mCons (ret (.int 0)) (mCons (ret (.int 1)) (ret [])))))))))))
def mir__law_well_v4 : List D → Rs := mDef 2 5 false true body__law_well_v4
def body_law_v4 : M Fl :=
  (mRet (mCa dAll (mCons (mComp [1] (mRange1 (mCons (mCa (gI2 iMax) (mCons (ret (.int 2)) (mCons (mCa (gI2 iMin) (mCons (mCa gLen (mCons (mVar 0) (ret []))) (mCons (ret (.int 3)) (ret [])))) (ret [])))) (ret []))) (setS 1) mYes (mCallT mir__law_right_v4 (mCall mir__law_well_v4 (mCons (mVar 0) (mCons (mVar 1) (ret [])))))) (ret []))))
def mir_law_v4 : List D → Rs := mDef 1 2 false false body_law_v4
def body__law_spare : M Fl :=
  (mSeq (mSet 3 (mLst (ret [])))
  (mSeq (mFor (mRange1 (mCons (mVar 1) (ret []))) (setS 4) (mApp 3 (mIf (mB (mOp (dCmp pGe) (mCallI 0 mir__law_draw (mCons (ret (.int 4)) (ret []))) (mVar 2))) (mCallI 0 mir__law_number (ret [])) (mTup (mCons (ret (.int 0)) (mCons (ret (.int 1)) (ret [])))))))
  (mRet (mTupS 3))))
def mir__law_spare : List D → Rs := mDef 3 5 true false body__law_spare
def body__law_lead : M Fl :=
  (mSeq (mSet 1 (mCallI 0 mir__law_number (ret [])))
  (mRet (mIf (mB (mOp dNe (mOp dIx (mVar 1) (ret (.int 0))) (ret (.int 0)))) (mVar 1) (mTup (mCons (ret (.int 1)) (mCons (ret (.int 1)) (ret [])))))))
def mir__law_lead : List D → Rs := mDef 1 2 true false body__law_lead
def body__law_stairs : M Fl :=
  (mSeq (mPar 2 3 (mConsO (mLst (ret [])) (mConsO (mLst (ret [])) (ret []))))
  (mSeq (mPar 4 5 (mCons (mCallI 0 mir__law_pick (mCons (mTup (mCons (ret (.int 0)) (mCons (ret (.int 0)) (mCons (ret (.int 2)) (mCons (ret (.int 3)) (ret [])))))) (ret []))) (mCons (mCallI 0 mir__law_pick (mCons (mTup (mCons (ret (.int 0)) (mCons (ret (.int 0)) (mCons (ret (.int 2)) (mCons (ret (.int 3)) (ret [])))))) (ret []))) (ret []))))
  (mSeq (mFor (mRange1 (mCons (mVar 1) (ret []))) (setS 6) (mSeq (mApp 2 (mOp dAdd (mOp dAdd (mCallI 0 mir__law_spare (mCons (mVar 6) (mCons (mVar 4) (ret [])))) (mTup (mCons (mTup (mCons (ret (.int 1)) (mCons (ret (.int 1)) (ret [])))) (ret [])))) (mOp dMul (mTup (mCons (mTup (mCons (ret (.int 0)) (mCons (ret (.int 1)) (ret [])))) (ret []))) (mOp dSub (mOp dSub (mVar 1) (ret (.int 1))) (mVar 6)))))
  (mApp 3 (mOp dAdd (mOp dAdd (mOp dMul (mTup (mCons (mTup (mCons (ret (.int 0)) (mCons (ret (.int 1)) (ret [])))) (ret []))) (mVar 6)) (mTup (mCons (mCallI 0 mir__law_lead (ret [])) (ret [])))) (mCallI 0 mir__law_spare (mCons (mOp dSub (mOp dSub (mVar 1) (ret (.int 1))) (mVar 6)) (mCons (mVar 5) (ret []))))))))
  (mRet (mCall mir__law_mul (mCons (mTupS 2) (mCons (mTupS 3) (ret []))))))))
def mir__law_stairs : List D → Rs := mDef 2 7 true false body__law_stairs
def body__law_mixed : M Fl :=
  (mSeq (mPar 2 3 (mConsO (mListOf (mVar 1)) (mConsO (mLst (ret [])) (ret []))))
  (mSeq (mFor (mRange1 (mCons (mCa gLen (mCons (mVar 1) (ret []))) (ret []))) (setS 4) (mApp 3 (mPopAt 2 (mCallI 0 mir__law_draw (mCons (mLenS 2) (ret []))))))
  (mRet (mTupS 3))))
def mir__law_mixed : List D → Rs := mDef 2 5 true false body__law_mixed
def body__law_regular : M Fl :=
  (mSeq (mSet 2 (mCallI 0 mir__law_stairs (mCons (mVar 1) (ret []))))
  (mRet (mIf (mB (mOp (dEq false) (mCallI 0 mir__law_draw (mCons (ret (.int 3)) (ret []))) (ret (.int 0)))) (mCallI 0 mir__law_mixed (mCons (mVar 2) (ret []))) (mVar 2))))
def mir__law_regular : List D → Rs := mDef 2 3 true false body__law_regular
def body_is_square : M Fl :=
  (mRet (mAndV (mCall mir_is_table (mCons (mVar 0) (ret []))) (mOp (dEq false) (mCa gLen (mCons (mVar 0) (ret []))) (mCa gLen (mCons (mOp dIx (mVar 0) (ret (.int 0))) (ret []))))))
def mir_is_square : List D → Rs := mDef 1 1 false false body_is_square
def body_check_square : M Fl :=
  (mIf (mNot (mTruth (mCall mir_is_square (mCons (mVar 0) (ret []))))) bad mNx)
def mir_check_square : List D → Rs := mDef 1 1 false false body_check_square
def body__ends_swept : M Fl :=
  (mSeq (mSet 2 (mCa gLen (mCons (mVar 0) (ret []))))
  (mSeq (mSet 3 (mComp [4, 5] (mZip (mCons (mVar 0) (mCons (mVar 1) (ret [])))) (gTupM 2 (gConsM (setS 4) (gConsM (setS 5) gNilM))) mYes (mOp dAdd (mVar 4) (mVar 5))))
  (mSeq (mAsg (mCall mir_reduced (mCons (mVar 3) (mCons (mVar 2) (ret [])))) (gTupM 2 (gConsM (setS 6) (gConsM (setS 7) gNilM))))
  (mSeq (mIf (mB (mOp (dCmp pLt) (mCa gLen (mCons (mVar 7) (ret []))) (mVar 2))) bad mNx)
  (mRet (mTupG [4] (mItems (mVar 6)) (setS 4) (mSl (mVar 4) (mPart (some (mVar 2))) (mPart none))))))))
def mir__ends_swept : List D → Rs := mDef 2 8 false false body__ends_swept
def body_unit_row : M Fl :=
  (mRet (mTupG [2] (mRange1 (mCons (mVar 0) (ret []))) (setS 2) (mIf (mB (mOp (dEq false) (mVar 2) (mVar 1))) (ret (.tuple (List.map PyData.int [1, 1]))) (ret (.tuple (List.map PyData.int [0, 1]))))))
def mir_unit_row : List D → Rs := mDef 2 3 false false body_unit_row
def body_inverse : M Fl :=
  (mSeq (mDrop (mCall mir_check_square (mCons (mVar 0) (ret []))))
  (mSeq (mSet 1 (mCa gLen (mCons (mVar 0) (ret []))))
  (mRet (mCall mir__ends_swept (mCons (mVar 0) (mCons (mComp [2] (mRange1 (mCons (mVar 1) (ret []))) (setS 2) mYes (mCall mir_unit_row (mCons (mVar 1) (mCons (mVar 2) (ret []))))) (ret [])))))))
def mir_inverse : List D → Rs := mDef 1 3 false false body_inverse
def body__law_lots : M Fl :=
  (mSeq (mSet 1 (mLst (mCons (mTup (ret [])) (ret []))))
  (mSeq (mFor (mRange1 (mCons (mVar 0) (ret []))) (setS 2) (mSet 1 (mOp dAdd (mVar 1) (mComp [3] (mItems (mVar 1)) (setS 3) mYes (mOp dAdd (mVar 3) (mTup (mCons (mVar 2) (ret []))))))))
  (mRet (mVar 1))))
def mir__law_lots : List D → Rs := mDef 1 4 false false body__law_lots
def body__law_minor (m : List D → Rs) : M Fl :=
  (mSeq (mIf (mB (mOp (dEq false) (mVar 0) (mLst (ret [])))) (mRet (ret (.int 1))) mNx)
  (mSeq (mAsg (mTup (mCons (ret (.int 0)) (mCons (ret (.int 1)) (ret [])))) (gTupM 2 (gConsM (setS 1) (gConsM (setS 2) gNilM))))
  (mSeq (mFor (mRange1 (mCons (mCa gLen (mCons (mVar 0) (ret []))) (ret []))) (setS 3) (mSeq (mIf (mB (mOp dNe (mOp dIx (mOp dIx (mVar 0) (ret (.int 0))) (mVar 3)) (ret (.int 0)))) (mSet 1 (mOp dAdd (mVar 1) (mOp dMul (mOp dMul (mVar 2) (mOp dIx (mOp dIx (mVar 0) (ret (.int 0))) (mVar 3))) (mCall m (mCons (mComp [4] (mItems (mSl (mVar 0) (mPart (some (ret (.int 1)))) (mPart none))) (setS 4) mYes (mOp dAdd (mSl (mVar 4) (mPart none) (mPart (some (mVar 3)))) (mSl (mVar 4) (mPart (some (mOp dAdd (mVar 3) (ret (.int 1))))) (mPart none)))) (ret [])))))) mNx)
  (mSet 2 (mOp dSub (ret (.int 0)) (mVar 2)))))
  (mRet (mVar 1)))))
def mir__law_minor : Nat → List D → Rs
  | 0 => fun _ => .bad
  | k + 1 => mDef 1 5 false false (body__law_minor (mir__law_minor k))
def body__law_undone : M Fl :=
  (mSeq (mPar 1 2 (mCons (mCall mir__law_wholes (mCons (mVar 0) (ret []))) (mConsO (mLst (ret [])) (ret []))))
  (mSeq (mSet 3 (mCall (mir__law_minor 8) (mCons (mVar 1) (ret []))))
  (mSeq (mFor (mRange1 (mCons (mCa gLen (mCons (mVar 0) (ret []))) (ret []))) (setS 4) (mSeq (mSet 5 (mLst (ret [])))
  (mSeq (mFor (mRange1 (mCons (mCa gLen (mCons (mVar 0) (ret []))) (ret []))) (setS 6) (mSeq (mSet 7 (mCall (mir__law_minor 8) (mCons (mComp [8] (mItems (mOp dAdd (mSl (mVar 1) (mPart none) (mPart (some (mVar 6)))) (mSl (mVar 1) (mPart (some (mOp dAdd (mVar 6) (ret (.int 1))))) (mPart none)))) (setS 8) mYes (mOp dAdd (mSl (mVar 8) (mPart none) (mPart (some (mVar 4)))) (mSl (mVar 8) (mPart (some (mOp dAdd (mVar 4) (ret (.int 1))))) (mPart none)))) (ret []))))
  (mSeq (mSet 7 (mOp dMul (mVar 7) (mCall mir__law_common (mCons (mOp dIx (mVar 0) (mVar 6)) (ret [])))))
  (mApp 5 (mCall mir__law_lean (mCons (mIf (mB (mOp (dEq false) (mOp dMod (mCa (gI1 fun i => i) (mCons (mOp dAdd (mVar 4) (mVar 6)) (ret []))) (ret (.int 2))) (ret (.int 0)))) (mVar 7) (mOp dSub (ret (.int 0)) (mVar 7))) (mCons (mVar 3) (ret []))))))))
  (mApp 2 (mTupS 5)))))
  (mRet (mTupS 2)))))
def mir__law_undone : List D → Rs := mDef 1 9 false false body__law_undone
def body__law_beside : M Fl :=
  (mRet (mCa gTuple (mCons (mComp [2] (mRange1 (mCons (mVar 1) (ret []))) (setS 2) (mB (mOp (dIn true) (mVar 2) (mVar 0))) (mVar 2)) (ret []))))
def mir__law_beside : List D → Rs := mDef 2 3 false false body__law_beside
def body__law_is_kept : M Fl :=
  (mSeq (mSet 4 (mCa gLen (mCons (mVar 0) (ret []))))
  (mSeq (mSet 5 (mCall mir__law_rank (mCons (mCall mir__law_piece (mCons (mVar 0) (mCons (mVar 2) (mCons (mVar 3) (ret []))))) (ret []))))
  (mSeq (mPar 6 7 (mCons (mCall mir__law_beside (mCons (mVar 2) (mCons (mVar 4) (ret [])))) (mCons (mCall mir__law_beside (mCons (mVar 3) (mCons (mVar 4) (ret [])))) (ret []))))
  (mSeq (mSet 8 (mTup (mCons (mCall mir_nullity (mCons (mVar 0) (mCons (mVar 2) (mCons (mVar 3) (ret []))))) (mCons (mCall mir_nullity (mCons (mVar 1) (mCons (mVar 7) (mCons (mVar 6) (ret []))))) (mCons (mCall mir_part_rank (mCons (mVar 1) (mCons (mVar 7) (mCons (mVar 6) (ret []))))) (ret []))))))
  (mRet (mCall (mir__law_same 8) (mCons (mVar 8) (mCons (mOp dAdd (mOp dMul (mTup (mCons (mOp dSub (mCa gLen (mCons (mVar 3) (ret []))) (mVar 5)) (ret []))) (ret (.int 2))) (mTup (mCons (mOp dSub (mOp dSub (mOp dAdd (mVar 5) (mVar 4)) (mCa gLen (mCons (mVar 2) (ret [])))) (mCa gLen (mCons (mVar 3) (ret [])))) (ret [])))) (ret [])))))))))
def mir__law_is_kept : List D → Rs := mDef 4 9 false false body__law_is_kept
def body__law_well_v5 : M Fl :=
  (mSeq (mSet 2 (mOp dAdd (ret (.int 86448)) (mOp dMul (ret (.int 7129)) (mVar 1))))
  (mSeq (mFor (mItems (mSl (mVar 0) (mPart none) (mPart (some (ret (.int 9)))))) (setS 3) (mSet 2 (mOp dMod (mCa (gI1 fun i => i) (mCons (mOp dAdd (mOp dAdd (mOp dMul (mVar 2) (ret (.int 47123))) (mOp dMod (mCa (gI1 fun i => i) (mCons (mVar 3) (ret []))) (ret (.int 2147483587)))) (ret (.int 5))) (ret []))) (ret (.int 2147483563)))))
  (mSeq (mSet 4 (mIf (mB (mOp (dCmp pLt) (mVar 1) (mCa gLen (mCons (mVar 0) (ret []))))) (mCa (gI1 fun i => i) (mCons (mOp dIx (mVar 0) (mVar 1)) (ret []))) (ret (.int 0))))
  (mSeq (mSet 2 (mOp dMod (mCa (gI1 fun i => i) (mCons (mOp dAdd (mOp dAdd (mOp dMul (mVar 2) (ret (.int 43))) (mOp dMul (mOp dMod (mCa (gI1 fun i => i) (mCons (mVar 4) (ret []))) (ret (.int 2147483587))) (ret (.int 20011)))) (ret (.int 7))) (ret []))) (ret (.int 2147483563))))
  (mRet (mLst (mCons (mIf (mOr (mB (mOp (dCmp pLt) (mVar 4) (ret (.int 0)))) (mB (mOp (dCmp pGe) (mVar 4) (mOp dPow (ret (.int 10)) (ret (.int 14)))))) (mCa (gI1 iAbs) (mCons (mVar 4) (ret []))) (ret (.int 0))) (mCons (mVar 2) (mCons (ret (.int 0)) (mCons (ret (.int 1)) (ret [])))))))))))
def mir__law_well_v5 : List D → Rs := mDef 2 5 false true body__law_well_v5
def body__law_right_v5 : M Fl :=
  (mSeq (mSet 1 (mCallI 0 mir__law_many (ret [])))
  (mSeq (mSet 2 (mCallI 0 mir__law_regular (mCons (mVar 1) (ret []))))
  (mSeq (mAsg (mTup (mCons (mCall mir_inverse (mCons (mVar 2) (ret []))) (mCons (mCallI 0 mir__law_lot (mCons (mVar 1) (ret []))) (mCons (mCall mir__law_lots (mCons (mVar 1) (ret []))) (ret []))))) (gTupM 3 (gConsM (setS 3) (gConsM (setS 4) (gConsM (setS 5) gNilM)))))
  (mSeq (mIf (mNot (mTruth (mCall (mir__law_same 8) (mCons (mVar 3) (mCons (mCall mir__law_undone (mCons (mVar 2) (ret []))) (ret [])))))) (mRet (ret (.bool false))) mNx)
  (mSeq (mIf (mB (mOp (dCmp pGt) (mVar 1) (ret (.int 3)))) (mOw 5 (mSeq (mSet 5 (mLst (ret [])))
  (mFor (mRange1 (mCons (ret (.int 8)) (ret []))) (setS 6) (mApp 5 (mCallI 0 mir__law_lot (mCons (mVar 1) (ret []))))))) mNx)
  (mRet (mCa dAll (mCons (mComp [7] (mItems (mVar 5)) (setS 7) mYes (mCall mir__law_is_kept (mCons (mVar 2) (mCons (mVar 3) (mCons (mVar 4) (mCons (mVar 7) (ret []))))))) (ret [])))))))))
def mir__law_right_v5 : List D → Rs := mDef 1 8 true false body__law_right_v5
def body_law_v5 : M Fl :=
  (mRet (mCa dAll (mCons (mComp [1] (mRange1 (mCons (mCa (gI2 iMax) (mCons (ret (.int 1)) (mCons (mCa (gI2 iMin) (mCons (mCa gLen (mCons (mVar 0) (ret []))) (mCons (ret (.int 2)) (ret [])))) (ret [])))) (ret []))) (setS 1) mYes (mCallT mir__law_right_v5 (mCall mir__law_well_v5 (mCons (mVar 0) (mCons (mVar 1) (ret [])))))) (ret []))))
def mir_law_v5 : List D → Rs := mDef 1 2 false false body_law_v5
def body_check_number : M Fl :=
  (mIf (mNot (mTruth (mCall mir_is_between (mCons (mVar 0) (mCons (mVar 1) (mCons (mVar 2) (ret []))))))) bad mNx)
def mir_check_number : List D → Rs := mDef 3 3 false false body_check_number
def body_coming : M Fl :=
  (mSeq (mDrop (mCall mir_check_carrier (mCons (mVar 0) (ret []))))
  (mSeq (mDrop (mCall mir_check_number (mCons (mVar 1) (mCons (ret (.int 1)) (mCons (mOp dSub (mCa gLen (mCons (mVar 0) (ret []))) (ret (.int 1))) (ret []))))))
  (mSeq (mSet 2 (mCa gLen (mCons (mOp dIx (mOp dIx (mVar 0) (mVar 1)) (ret (.int 0))) (ret []))))
  (mRet (mCall mir_columns_at (mCons (mOp dIx (mCall mir__coming_columns (mCons (mVar 0) (ret []))) (mVar 1)) (mCons (mListRg (mVar 2)) (ret []))))))))
def mir_coming : List D → Rs := mDef 2 3 false false body_coming
def body_going : M Fl :=
  (mSeq (mDrop (mCall mir_check_carrier (mCons (mVar 0) (ret []))))
  (mSeq (mDrop (mCall mir_check_number (mCons (mVar 1) (mCons (ret (.int 1)) (mCons (mOp dSub (mCa gLen (mCons (mVar 0) (ret []))) (ret (.int 1))) (ret []))))))
  (mSeq (mSet 2 (mTup (ret [])))
  (mSeq (mFor (mRevI (mSl (mVar 0) (mPart (some (mVar 1))) (mPart none))) (gTupM 3 (gConsM (setS 3) (gConsM (setS 4) (gConsM (setS 5) gNilM)))) (mSet 2 (mTup (mCons (mVar 3) (mStar (mCall mir_times (mCons (mVar 2) (mCons (mVar 4) (mCons (mCa gLen (mCons (mVar 3) (ret []))) (ret []))))) (ret []))))))
  (mRet (mVar 2))))))
def mir_going : List D → Rs := mDef 2 6 false false body_going
def body__law_back : M Fl :=
  (mRet (mCa gTuple (mCons (mComp [4] (mRange1 (mCons (mVar 2) (ret []))) (setS 4) mYes (mCall mir__law_dot (mCons (mVar 0) (mCons (mComp [3] (mItems (mVar 1)) (setS 3) mYes (mOp dIx (mVar 3) (mVar 4))) (ret []))))) (ret []))))
def mir__law_back : List D → Rs := mDef 3 5 false false body__law_back
def body__law_come : M Fl :=
  (mSeq (mSet 2 (mComp [3] (mRange1 (mCons (mVar 1) (ret []))) (setS 3) mYes (mCall mir__law_led (mCons (mVar 0) (mCons (mVar 3) (mCons (mVar 1) (ret [])))))))
  (mRet (mCa gTuple (mCons (mComp [3] (mRange1 (mCons (mCa gLen (mCons (mOp dIx (mOp dIx (mVar 0) (mVar 1)) (ret (.int 0))) (ret []))) (ret []))) (setS 3) mYes (mCa gTuple (mCons (mComp [4] (mItems (mVar 2)) (setS 4) mYes (mOp dIx (mVar 4) (mVar 3))) (ret [])))) (ret [])))))
def mir__law_come : List D → Rs := mDef 2 5 false false body__law_come
def body__law_off : M Fl :=
  (mSeq (mSet 2 (mLst (ret [])))
  (mSeq (mFor (mRange2 (mCons (mVar 1) (mCons (mCa gLen (mCons (mVar 0) (ret []))) (ret [])))) (setS 3) (mSeq (mSet 4 (mOp dIx (mOp dIx (mVar 0) (mVar 3)) (ret (.int 0))))
  (mSeq (mFor (mRevRg (mCons (mVar 1) (mCons (mVar 3) (ret [])))) (setS 5) (mSet 4 (mCall mir__law_back (mCons (mVar 4) (mCons (mOp dIx (mOp dIx (mVar 0) (mVar 5)) (ret (.int 1))) (mCons (mCa gLen (mCons (mOp dIx (mOp dIx (mVar 0) (mVar 5)) (ret (.int 0))) (ret []))) (ret [])))))))
  (mApp 2 (mVar 4)))))
  (mRet (mTupS 2))))
def mir__law_off : List D → Rs := mDef 2 6 false false body__law_off
def body__law_is_both : M Fl :=
  (mSeq (mPar 3 4 (mCons (mCall mir_coming (mCons (mVar 0) (mCons (mVar 2) (ret [])))) (mCons (mCall mir_going (mCons (mVar 0) (mCons (mVar 2) (ret [])))) (ret []))))
  (mSeq (mIf (mNot (mTruth (mCall (mir__law_same 8) (mCons (mTup (mCons (mVar 3) (mCons (mVar 4) (ret [])))) (mCons (mTup (mCons (mCall mir__law_come (mCons (mVar 0) (mCons (mVar 2) (ret [])))) (mCons (mCall mir__law_off (mCons (mVar 0) (mCons (mVar 2) (ret [])))) (ret [])))) (ret [])))))) (mRet (ret (.bool false))) mNx)
  (mSeq (mIf (mNot (mTruth (mCall (mir__law_same 8) (mCons (mTup (mCons (mCallKW [1, 0] mir_coming (mCons (mVar 2) (mCons (mVar 0) (ret [])))) (mCons (mCallKW [1, 0] mir_going (mCons (mVar 2) (mCons (mVar 0) (ret [])))) (ret [])))) (mCons (mTup (mCons (mVar 3) (mCons (mVar 4) (ret [])))) (ret [])))))) (mRet (ret (.bool false))) mNx)
  (mSeq (mSet 5 (mCa gTuple (mCons (mComp [6] (mItems (mVar 4)) (setS 6) mYes (mCall mir__law_back (mCons (mVar 6) (mCons (mVar 3) (mCons (mVar 2) (ret [])))))) (ret []))))
  (mRet (mOp (dEq false) (mVar 5) (mCa gTuple (mCons (mComp [6] (mItems (mSl (mVar 1) (mPart (some (mVar 2))) (mPart none))) (setS 6) mYes (mSl (mVar 6) (mPart none) (mPart (some (mVar 2))))) (ret [])))))))))
def mir__law_is_both : List D → Rs := mDef 3 7 false false body__law_is_both
def body__law_right_v6 : M Fl :=
  (mSeq (mSet 1 (mCallI 0 mir__law_some (mCons (mCallI 0 mir__law_places (ret [])) (ret []))))
  (mSeq (mSet 2 (mCall mir__law_below (mCons (mVar 1) (ret []))))
  (mRet (mCa dAll (mCons (mComp [3] (mRange2 (mCons (ret (.int 1)) (mCons (mCa gLen (mCons (mVar 1) (ret []))) (ret [])))) (setS 3) mYes (mCall mir__law_is_both (mCons (mVar 1) (mCons (mVar 2) (mCons (mVar 3) (ret [])))))) (ret []))))))
def mir__law_right_v6 : List D → Rs := mDef 1 4 true false body__law_right_v6
def body__law_well_v6 : M Fl :=
  (mSeq (mSet 2 (mOp dAdd (ret (.int 2654387)) (mOp dMul (ret (.int 7129)) (mVar 1))))
  (mSeq (mFor (mItems (mSl (mVar 0) (mPart none) (mPart (some (ret (.int 9)))))) (setS 3) (mSet 2 (mOp dMod (mCa (gI1 fun i => i) (mCons (mOp dAdd (mOp dAdd (mOp dMul (mVar 2) (ret (.int 47123))) (mOp dMod (mCa (gI1 fun i => i) (mCons (mVar 3) (ret []))) (ret (.int 2147483587)))) (ret (.int 5))) (ret []))) (ret (.int 2147483563)))))
  (mSeq (mSet 4 (mIf (mB (mOp (dCmp pLt) (mVar 1) (mCa gLen (mCons (mVar 0) (ret []))))) (mCa (gI1 fun i => i) (mCons (mOp dIx (mVar 0) (mVar 1)) (ret []))) (ret (.int 0))))
  (mSeq (mSet 2 (mOp dMod (mCa (gI1 fun i => i) (mCons (mOp dAdd (mOp dAdd (mOp dMul (mVar 2) (ret (.int 43))) (mOp dMul (mOp dMod (mCa (gI1 fun i => i) (mCons (mVar 4) (ret []))) (ret (.int 2147483587))) (ret (.int 20011)))) (ret (.int 7))) (ret []))) (ret (.int 2147483563))))
  (mRet (mLst (mCons (mIf (mOr (mB (mOp (dCmp pLt) (mVar 4) (ret (.int 0)))) (mB (mOp (dCmp pGe) (mVar 4) (mOp dPow (ret (.int 10)) (ret (.int 14)))))) (mCa (gI1 iAbs) (mCons (mVar 4) (ret []))) (ret (.int 0))) (mCons (mVar 2) (mCons (ret (.int 0)) (mCons (ret (.int 1)) (ret [])))))))))))
def mir__law_well_v6 : List D → Rs := mDef 2 5 false true body__law_well_v6
def body_law_v6 : M Fl :=
  (mRet (mCa dAll (mCons (mComp [1] (mRange1 (mCons (mCa (gI2 iMax) (mCons (ret (.int 2)) (mCons (mCa (gI2 iMin) (mCons (mCa gLen (mCons (mVar 0) (ret []))) (mCons (ret (.int 3)) (ret [])))) (ret [])))) (ret []))) (setS 1) mYes (mCallT mir__law_right_v6 (mCall mir__law_well_v6 (mCons (mVar 0) (mCons (mVar 1) (ret [])))))) (ret []))))
def mir_law_v6 : List D → Rs := mDef 1 2 false false body_law_v6
def body__law_lows : M Fl :=
  (mRet (mCa gTuple (mCons (mComp [2] (mRange2 (mCons (ret (.int 1)) (mCons (mCa gLen (mCons (mVar 0) (ret []))) (ret [])))) (setS 2) mYes (mCall mir__law_rank (mCons (mComp [1] (mItems (mSl (mVar 0) (mPart (some (mVar 2))) (mPart none))) (setS 1) mYes (mSl (mVar 1) (mPart none) (mPart (some (mVar 2))))) (ret [])))) (ret []))))
def mir__law_lows : List D → Rs := mDef 1 3 false false body__law_lows
def body_low_ranks : M Fl :=
  (mSeq (mDrop (mCall mir_check_square (mCons (mVar 0) (ret []))))
  (mRet (mTupG [2] (mRange2 (mCons (ret (.int 1)) (mCons (mCa gLen (mCons (mVar 0) (ret []))) (ret [])))) (setS 2) (mCall mir_row_rank (mCons (mComp [1] (mItems (mSl (mVar 0) (mPart (some (mVar 2))) (mPart none))) (setS 1) mYes (mSl (mVar 1) (mPart none) (mPart (some (mVar 2))))) (ret []))))))
def mir_low_ranks : List D → Rs := mDef 1 3 false false body_low_ranks
def body__law_lot_of : M Fl :=
  (mSeq (mSet 3 (mListRg (mVar 1)))
  (mSeq (mFor (mRange1 (mCons (mOp dSub (mVar 1) (mVar 2)) (ret []))) (setS 4) (mDrop (mPopAt 3 (mCallI 0 mir__law_draw (mCons (mLenS 3) (ret []))))))
  (mRet (mTupS 3))))
def mir__law_lot_of : List D → Rs := mDef 3 5 true false body__law_lot_of
def body__law_det : M Fl :=
  (mSeq (mSet 1 (ret (.int 1)))
  (mSeq (mFor (mItems (mVar 0)) (setS 2) (mSet 1 (mOp dMul (mVar 1) (mCall mir__law_common (mCons (mVar 2) (ret []))))))
  (mRet (mCall mir__law_lean (mCons (mCall (mir__law_minor 8) (mCons (mCall mir__law_wholes (mCons (mVar 0) (ret []))) (ret []))) (mCons (mVar 1) (ret [])))))))
def mir__law_det : List D → Rs := mDef 1 3 false false body__law_det
def body_determinant : M Fl :=
  (mSeq (mDrop (mCall mir_check_square (mCons (mVar 0) (ret []))))
  (mSeq (mAsg (mCall mir_whole_rows (mCons (mVar 0) (ret []))) (gTupM 2 (gConsM (setS 1) (gConsM (setS 2) gNilM))))
  (mSeq (mAsg (mCall mir_swept (mCons (mVar 1) (mCons (mCa gLen (mCons (mVar 0) (ret []))) (ret [])))) (gTupM 3 (gConsM (setS 3) (gConsM (setS 4) (gConsM (setS 5) gNilM)))))
  (mSeq (mIf (mB (mOp (dCmp pLt) (mCa gLen (mCons (mVar 4) (ret []))) (mCa gLen (mCons (mVar 0) (ret []))))) (mRet (ret (.tuple (List.map PyData.int [0, 1])))) mNx)
  (mRet (mCall mir_fraction (mCons (mVar 5) (mCons (mVar 2) (ret [])))))))))
def mir_determinant : List D → Rs := mDef 1 6 false false body_determinant
def body__law_due : M Fl :=
  (mSeq (mSet 4 (mIf (mB (mOp (dEq false) (mVar 2) (mTup (ret [])))) (mCall mir__law_lean (mCons (ret (.int 1)) (mCons (ret (.int 1)) (ret [])))) (mCall mir__law_det (mCons (mCall mir__law_piece (mCons (mVar 0) (mCons (mVar 2) (mCons (mVar 3) (ret []))))) (ret [])))))
  (mSeq (mSet 4 (mCall mir__law_lean (mCons (mOp dMul (mOp dIx (mVar 4) (ret (.int 0))) (mOp dIx (mVar 1) (ret (.int 1)))) (mCons (mOp dMul (mOp dIx (mVar 4) (ret (.int 1))) (mOp dIx (mVar 1) (ret (.int 0)))) (ret [])))))
  (mRet (mIf (mB (mOp (dEq false) (mOp dMod (mCa (gI1 fun i => i) (mCons (mOp dAdd (mCa dSum (mCons (mVar 2) (ret []))) (mCa dSum (mCons (mVar 3) (ret [])))) (ret []))) (ret (.int 2))) (ret (.int 0)))) (mVar 4) (mTup (mCons (mOp dSub (ret (.int 0)) (mOp dIx (mVar 4) (ret (.int 0)))) (mCons (mOp dIx (mVar 4) (ret (.int 1))) (ret []))))))))
def mir__law_due : List D → Rs := mDef 4 5 false false body__law_due
def body__law_right_v8 : M Fl :=
  (mSeq (mSet 1 (mCallI 0 mir__law_many (ret [])))
  (mSeq (mSet 2 (mCallI 0 mir__law_regular (mCons (mVar 1) (ret []))))
  (mSeq (mPar 3 4 (mCons (mCall mir_inverse (mCons (mVar 2) (ret []))) (mCons (mCall mir__law_det (mCons (mVar 2) (ret []))) (ret []))))
  (mSeq (mSet 5 (mCallI 0 mir__law_lot_of (mCons (mVar 1) (mCons (mCallI 0 mir__law_draw (mCons (mVar 1) (ret []))) (ret [])))))
  (mSeq (mIf (mNot (mTruth (mCall (mir__law_same 8) (mCons (mTup (mCons (mVar 3) (mCons (mCall mir_determinant (mCons (mVar 2) (ret []))) (ret [])))) (mCons (mTup (mCons (mCall mir__law_undone (mCons (mVar 2) (ret []))) (mCons (mVar 4) (ret [])))) (ret [])))))) (mRet (ret (.bool false))) mNx)
  (mSeq (mFor (mItems (mCall mir__law_lots (mCons (mVar 1) (ret [])))) (setS 6) (mIf (mB (mOp (dEq false) (mCa gLen (mCons (mVar 6) (ret []))) (mCa gLen (mCons (mVar 5) (ret []))))) (mSeq (mSet 7 (mCall mir_determinant (mCons (mCall mir_part (mCons (mVar 3) (mCons (mCall mir__law_beside (mCons (mVar 6) (mCons (mVar 1) (ret [])))) (mCons (mCall mir__law_beside (mCons (mVar 5) (mCons (mVar 1) (ret [])))) (ret []))))) (ret []))))
  (mIf (mNot (mTruth (mCall (mir__law_same 8) (mCons (mVar 7) (mCons (mCall mir__law_due (mCons (mVar 2) (mCons (mVar 4) (mCons (mVar 5) (mCons (mVar 6) (ret [])))))) (ret [])))))) (mRet (ret (.bool false))) mNx)) mNx))
  (mRet (ret (.bool true)))))))))
def mir__law_right_v8 : List D → Rs := mDef 1 8 true false body__law_right_v8
def body__law_well_v8 : M Fl :=
  (mSeq (mSet 2 (mOp dAdd (ret (.int 33713)) (mOp dMul (ret (.int 7129)) (mVar 1))))
  (mSeq (mFor (mItems (mSl (mVar 0) (mPart none) (mPart (some (ret (.int 9)))))) (setS 3) (mSet 2 (mOp dMod (mCa (gI1 fun i => i) (mCons (mOp dAdd (mOp dAdd (mOp dMul (mVar 2) (ret (.int 47123))) (mOp dMod (mCa (gI1 fun i => i) (mCons (mVar 3) (ret []))) (ret (.int 2147483587)))) (ret (.int 5))) (ret []))) (ret (.int 2147483563)))))
  (mSeq (mSet 4 (mIf (mB (mOp (dCmp pLt) (mVar 1) (mCa gLen (mCons (mVar 0) (ret []))))) (mCa (gI1 fun i => i) (mCons (mOp dIx (mVar 0) (mVar 1)) (ret []))) (ret (.int 0))))
  (mSeq (mSet 2 (mOp dMod (mCa (gI1 fun i => i) (mCons (mOp dAdd (mOp dAdd (mOp dMul (mVar 2) (ret (.int 43))) (mOp dMul (mOp dMod (mCa (gI1 fun i => i) (mCons (mVar 4) (ret []))) (ret (.int 2147483587))) (ret (.int 20011)))) (ret (.int 7))) (ret []))) (ret (.int 2147483563))))
  (mRet (mLst (mCons (mIf (mOr (mB (mOp (dCmp pLt) (mVar 4) (ret (.int 0)))) (mB (mOp (dCmp pGe) (mVar 4) (mOp dPow (ret (.int 10)) (ret (.int 14)))))) (mCa (gI1 iAbs) (mCons (mVar 4) (ret []))) (ret (.int 0))) (mCons (mVar 2) (mCons (ret (.int 0)) (mCons (ret (.int 1)) (ret [])))))))))))
def mir__law_well_v8 : List D → Rs := mDef 2 5 false true body__law_well_v8
def body_law_v8 : M Fl :=
  (mRet (mCa dAll (mCons (mComp [1] (mRange1 (mCons (mCa (gI2 iMax) (mCons (ret (.int 1)) (mCons (mCa (gI2 iMin) (mCons (mCa gLen (mCons (mVar 0) (ret []))) (mCons (ret (.int 2)) (ret [])))) (ret [])))) (ret []))) (setS 1) mYes (mCallT mir__law_right_v8 (mCall mir__law_well_v8 (mCons (mVar 0) (mCons (mVar 1) (ret [])))))) (ret []))))
def mir_law_v8 : List D → Rs := mDef 1 2 false false body_law_v8
end ML
local macro_rules | `(tactic| walk_at "s") => `(tactic| first
  | with_reducible apply Mir.Fine.seq_ite
  | with_reducible apply Mir.Fine.seq_ret
  | with_reducible apply Mir.Fine.seq_nx
  | with_reducible apply Mir.Fine.seq_seq
  | with_reducible apply Mir.Fine.seq_for
  | with_reducible apply Mir.Fine.seqN
  | with_reducible apply Mir.Fine.ite
  | with_reducible apply Mir.Fine.gtupQ
  | with_reducible apply Mir.Fine.mret
  | with_reducible apply Mir.Fine.nx
  | with_reducible apply Mir.Fine.drop
  | with_reducible apply Mir.Fine.set
  | with_reducible apply Mir.Fine.asg
  | with_reducible apply Mir.Fine.par
  | with_reducible apply Mir.Fine.mfor
  | with_reducible apply Mir.Fine.gcons
  | with_reducible apply Mir.Fine.gnil
  | with_reducible apply Mir.Fine.ret
  | with_reducible apply Mir.Fine.neg
  | with_reducible apply Mir.Fine.op
  | with_reducible apply Mir.Fine.ca
  | with_reducible apply Mir.Fine.tup
  | with_reducible apply Mir.Fine.lst
  | with_reducible apply Mir.Fine.isi
  | with_reducible apply Mir.Fine.andV
  | with_reducible apply Mir.Fine.orV
  | with_reducible apply Mir.Fine.notV
  | with_reducible apply Mir.Fine.chainP
  | with_reducible apply Mir.Fine.part_none
  | with_reducible apply Mir.Fine.part_some
  | with_reducible apply Mir.Fine.sl
  | with_reducible apply Mir.Fine.rev
  | with_reducible apply Mir.Fine.repr
  | with_reducible apply Mir.Fine.listRg
  | with_reducible apply Mir.Fine.call
  | with_reducible apply Mir.Fine.callKW
  | with_reducible apply Mir.Fine.callT
  | with_reducible apply Mir.Fine.cons
  | with_reducible apply Mir.Fine.consO
  | with_reducible apply Mir.Fine.items
  | with_reducible apply Mir.Fine.range1
  | with_reducible apply Mir.Fine.truth
  | with_reducible apply Mir.Fine.mb
  | with_reducible apply Mir.Fine.and
  | with_reducible apply Mir.Fine.or
  | with_reducible apply Mir.Fine.not
  | with_reducible apply Mir.Fine.yes
  | ((with_reducible apply Mir.Fine.var); focus rfl)
  | ((with_reducible apply Mir.Fine.setS); (focus exact Mir.lt_len rfl); (try dsimp only [List.set_cons_zero, List.set_cons_succ]))
  | ((with_reducible apply Mir.Fine.gtup); focus rfl)
  | ((with_reducible apply Mir.Fine.callI); focus rfl)
  | ((with_reducible apply Mir.Fine.ixS); focus rfl)
  | ((with_reducible apply Mir.Fine.lenS); focus rfl)
  | ((with_reducible apply Mir.Fine.tupS); focus rfl)
  | ((with_reducible apply Mir.Fine.frz); (focus rfl); (try dsimp only [List.set_cons_zero, List.set_cons_succ]))
  | ((with_reducible apply Mir.Fine.app); focus rfl)
  | ((with_reducible apply Mir.Fine.put); focus rfl)
  | with_reducible refine ⟨rfl, ?_⟩
  | ((with_reducible apply Mir.and_len); (focus exact Mir.lt_len rfl); (try dsimp only [List.set_cons_zero, List.set_cons_succ]))
  | ((with_reducible apply Mir.ex_par); (focus rfl); (try dsimp only [List.set_cons_zero, List.set_cons_succ]))
  | ((with_reducible apply Mir.ex_eq); (focus rfl); (try dsimp only [List.set_cons_zero, List.set_cons_succ]))
  | ((with_reducible apply Mir.and_rfl); (focus rfl); (try dsimp only [List.set_cons_zero, List.set_cons_succ]))
  | ((with_reducible apply Mir.br_t); focus rfl)
  | ((with_reducible apply Mir.br_f); focus rfl))
local macro_rules | `(tactic| walk_at "r") => `(tactic| repeat (walk_at "s"))
/-! What the laws' own arithmetic does. -/
namespace Mir
open PySem L2 ML
theorem iAbs_nat (i : Int) : iAbs i = (i.natAbs : Int) := by unfold iAbs; split <;> omega
theorem fin_lean {t l g : Int} (h0 : l ≠ 0) (hg : g = iGcd t l) :
    Fine ((mSeq (mSet 2 (mIf (mB (mOp (dCmp pGt) (mVar 1) (ret (.int 0)))) (mVar 2) (mOp dSub (ret (.int 0)) (mVar 2))))
      (mRet (mTup (mCons (mOp dDivP (mVar 0) (mVar 2)) (mCons (mOp dDivP (mVar 1) (mVar 2)) (ret [])))))) [some (.int t), some (.int l), some (.int g), some (.int 0)])
      (FlQ false false fun d' o' => d' = encQ (Rat.divInt t l) ∧ o' = none) := by
  subst hg
  have gp := iGcd_pos (a := t) h0
  walk_at "r"
  refine ⟨fun h => ?_, fun h => ?_⟩
  · have h : 0 < l := of_decide_eq_true h
    walk_at "r"
    refine ⟨_, dDivP_int (by omega), ?_⟩
    walk_at "r"
    refine ⟨_, dDivP_int (by omega), ?_⟩
    walk_at "r"
    exact ⟨(low_pos h).symm, rfl⟩
  · have h : ¬ 0 < l := of_decide_eq_false h
    walk_at "r"
    have e : 0 - iGcd t l = -(iGcd t l) := by omega
    refine ⟨_, dDivP_int (by omega), ?_⟩
    walk_at "r"
    refine ⟨_, dDivP_int (by omega), ?_⟩
    walk_at "r"
    rw [e]
    exact ⟨(low_neg (by omega)).symm, rfl⟩
theorem lean_eq {t l : Int} (h0 : l ≠ 0) : mir__law_lean [.int t, .int l] = .ok (encQ (Rat.divInt t l)) none := by
  refine ROk.eq ?_
  unfold mir__law_lean
  refine ROk.mDef (env := [some _, some _, none, none]) rfl rfl ?_
  unfold body__law_lean
  walk_at "r"
  unfold mWhile
  refine Fine.loop (fun n e => ∃ x y : Nat, e = [some (.int t), some (.int l), some (.int (x : Int)), some (.int (y : Int))] ∧ y < n ∧ ((Nat.gcd x y : Nat) : Int) = iGcd t l) ?_ ?_ _ _ ?_
  · rintro n e ⟨x, y, rfl, hy, hg⟩
    walk_at "r"
    refine ⟨fun h => ?_, fun h => ?_⟩
    · have hy0 : y ≠ 0 := by
        intro z
        subst z
        simp [PyData.eqv] at h
      walk_at "r"
      refine ⟨_, dMod_pos (by omega), ?_⟩
      walk_at "r"
      refine ⟨y, x % y, ?_, ?_, ?_⟩
      · have e : ((fun i => i) (x : Int)) % (y : Int) = ((x % y : Nat) : Int) := (Int.natCast_emod x y).symm
        rw [e]
      · have := Nat.mod_lt x (Nat.pos_of_ne_zero hy0)
        omega
      · rw [← hg, Nat.gcd_comm x y, Nat.gcd_rec y x, Nat.gcd_comm]
    · have hy0 : y = 0 := by
        by_cases z : y = 0
        · exact z
        · simp [PyData.eqv, z] at h
      subst hy0
      refine ⟨rfl, fin_lean h0 ?_⟩
      rw [← hg, Nat.gcd_zero_right]
  · rintro e ⟨x, y, _, h, _⟩
    omega
  · rw [iAbs_nat, iAbs_nat]
    refine ⟨t.natAbs, l.natAbs, rfl, ?_, rfl⟩
    show l.natAbs < (l.natAbs : Int).natAbs + 1
    omega
end Mir
/-! What the laws draw. -/
namespace Mir
open PySem L2 ML
/-- a well: four numbers; N bounds how often it gave -/
structure WellOk (N : Nat) (w : List D) : Prop where
  ex : ∃ a b c d : Int, w = [.int a, .int b, .int c, .int d] ∧ 0 ≤ b ∧ b < 2147483563 ∧ 0 ≤ c ∧ c ≤ N
theorem WellOk.mono {N M : Nat} {w : List D} (h : WellOk N w) (hl : N ≤ M) : WellOk M w := by
  obtain ⟨a, b, c, d, e, h1, h2, h3, h4⟩ := h.ex
  exact ⟨a, b, c, d, e, h1, h2, h3, by omega⟩
theorem draw_ok {N : Nat} {w : List D} {many : Int} (h : WellOk N w) (hm : 0 < many) (hb : many < 2 ^ 64) (hN : N < 2 ^ 64) : ROk (mir__law_draw [.list w, .int many]) fun d o => ∃ f w', d = .int f ∧ 0 ≤ f ∧ f < many ∧ o = some (.list w') ∧ WellOk (N + 1) w' := by
  obtain ⟨a, b, c, dd, rfl, hb0, hb1, hc0, hc1⟩ := h.ex
  unfold mir__law_draw
  refine ROk.mDef (env := [some _, some _, none, none]) rfl rfl ?_
  unfold body__law_draw
  walk_at "r"
  refine ⟨fun ha => ?_, fun ha => ?_⟩
  · walk_at "r"
    refine ⟨_, gDivmod_pos hm (log_s (by decide) (by omega) (by omega)), ?_⟩
    walk_at "r"
    exact ⟨_, _, rfl, Int.emod_nonneg _ (by omega), Int.emod_lt_of_pos _ hm, rfl, ⟨_, b, c, dd, rfl, hb0, hb1, hc0, by omega⟩⟩
  · walk_at "r"
    refine ⟨_, dMul_int (by decide) (log_s (by decide) (by omega) (by omega)), ?_⟩
    walk_at "r"
    have fm : ∀ x y : Int, 0 < y → x.fmod y = x % y := fun x y hy => Int.fmod_eq_emod_of_nonneg _ (by omega)
    have fd : ∀ x y : Int, 0 < y → x.fdiv y = x / y := fun x y hy => Int.fdiv_eq_ediv_of_nonneg _ (by omega)
    have s0 : 0 ≤ (b + 60013 * (c + 1)).fmod 2147483563 := by rw [fm _ _ (by decide)]; omega
    have s1 : (b + 60013 * (c + 1)).fmod 2147483563 < 2147483563 := by rw [fm _ _ (by decide)]; omega
    generalize (b + 60013 * (c + 1)).fmod 2147483563 = s at s0 s1 ⊢
    have t0 : 0 ≤ s.fmod 5003 := by rw [fm _ _ (by decide)]; omega
    have t1 : s.fmod 5003 < 5003 := by rw [fm _ _ (by decide)]; omega
    try dsimp only
    generalize s.fmod 5003 = t at t0 t1 ⊢
    refine ⟨_, dMul_int (log_s (by decide) (by omega) (by omega)) (log_s (by decide) (by omega) (by omega)), ?_⟩
    walk_at "r"
    refine ⟨_, dMul_int (by decide) (log_s (by decide) (by omega) (by omega)), ?_⟩
    walk_at "r"
    try dsimp only
    generalize s * (t + 40009) + 31 * (c + 1) = u
    have u0 : 0 ≤ u.fmod 2147483563 := by rw [fm _ _ (by decide)]; omega
    have u1 : u.fmod 2147483563 < 2147483563 := by rw [fm _ _ (by decide)]; omega
    refine ⟨_, dMod_pos hm, ?_⟩
    walk_at "r"
    exact ⟨_, _, rfl, Int.emod_nonneg _ (by omega), Int.emod_lt_of_pos _ hm, rfl, ⟨a, _, _, dd, rfl, u0, u1, by omega, by omega⟩⟩
theorem atI_nat {α : Type} {xs : List α} {f : Int} (h0 : 0 ≤ f) (h1 : f < xs.length) : ∃ x, xs[f.toNat]? = some x ∧ atI xs f = some x := by
  have hl : f.toNat < xs.length := by omega
  refine ⟨xs[f.toNat], List.getElem?_eq_getElem hl, ?_⟩
  unfold atI ixN
  rw [if_pos h0, if_pos h1]
  exact List.getElem?_eq_getElem hl
theorem dIx_mem {xs : List D} {f : Int} (h0 : 0 ≤ f) (h1 : f < xs.length) : ∃ d, dIx (.tuple xs) (.int f) = some d ∧ d ∈ xs := by
  obtain ⟨x, e1, e2⟩ := atI_nat h0 h1
  exact ⟨x, e2, List.mem_of_getElem? e1⟩
theorem qb_of {a b : Int} {k : Nat} (h0 : 0 < b) (h1 : -(2 ^ k) < a) (h2 : a < 2 ^ k) (h3 : b < 2 ^ k) : Qb k (Rat.divInt a b) := by
  refine qb_divInt (by omega) ?_ ?_
  · have e : ((2 ^ k : Nat) : Int) = 2 ^ k := by simp
    omega
  · have e : ((2 ^ k : Nat) : Int) = 2 ^ k := by simp
    omega
theorem number_ok {N : Nat} {w : List D} (h : WellOk N w) (hN : N < 2 ^ 60) : ROk (mir__law_number [.list w]) fun d o => ∃ q w', d = encQ q ∧ Qb 21 q ∧ o = some (.list w') ∧ WellOk (N + 3) w' := by
  unfold mir__law_number
  refine ROk.mDef (env := [some _, none]) rfl rfl ?_
  unfold body__law_number
  walk_at "r"
  refine (draw_ok h (by decide) (by decide) (by omega)).imp ?_
  rintro _ _ ⟨f, w1, rfl, f0, f1, rfl, h1⟩
  walk_at "r"
  obtain ⟨a, b, c, dd, rfl, hb0, hb1, hc0, hc1⟩ := h1.ex
  have small : ∀ w1, WellOk (N + 1) w1 → Fine (mSeq (mIf (mB (mOp (dCmp pLt) (mVar 1) (ret (.int 50)))) (mRet (mTup (mCons (mOp dIx (mTup (mCons (ret (.int 0)) (mCons (ret (.int 1)) (mCons (mNeg (ret (.int 1))) (mCons (ret (.int 2)) (mCons (ret (.int 1)) (mCons (ret (.int 0)) (mCons (mNeg (ret (.int 2))) (mCons (ret (.int 3)) (ret [])))))))))) (mCallI 0 mir__law_draw (mCons (ret (.int 8)) (ret [])))) (mCons (ret (.int 1)) (ret []))))) mNx)
      (mRet (mCall mir__law_lean (mCons (mOp dSub (mCallI 0 mir__law_draw (mCons (ret (.int 11)) (ret []))) (ret (.int 5))) (mCons (mOp dAdd (ret (.int 2)) (mCallI 0 mir__law_draw (mCons (ret (.int 3)) (ret [])))) (ret [])))))
      [some (.list w1), some (.int f)]) (FlQ true false fun d o => ∃ q w', d = encQ q ∧ Qb 21 q ∧ o = some (.list w') ∧ WellOk (N + 3) w') := by
    intro w1 h1
    walk_at "r"
    refine ⟨fun _ => ?_, fun _ => ?_⟩
    · walk_at "r"
      refine (draw_ok h1 (by decide) (by decide) (by omega)).imp ?_
      rintro _ _ ⟨g, w2, rfl, g0, g1, rfl, h2⟩
      walk_at "r"
      obtain ⟨d, hd, hm⟩ := dIx_mem (xs := [.int 0, .int 1, .int (-1), .int 2, .int 1, .int 0, .int (-2), .int 3]) g0 g1
      refine ⟨d, hd, ?_⟩
      walk_at "r"
      have : ∃ i : Int, d = .int i ∧ -3 < i ∧ i < 4 := by
        simp only [List.mem_cons, List.not_mem_nil, or_false] at hm
        rcases hm with rfl | rfl | rfl | rfl | rfl | rfl | rfl | rfl <;> exact ⟨_, rfl, by decide, by decide⟩
      obtain ⟨i, rfl, i0, i1⟩ := this
      refine ⟨(i : Rat), w2, ?_, ⟨?_, ?_⟩, rfl, h2.mono (by omega)⟩
      · unfold encQ
        rw [Rat.num_intCast, Rat.den_intCast]
        rfl
      · rw [Rat.num_intCast]; omega
      · rw [Rat.den_intCast]; decide
    · walk_at "r"
      refine (draw_ok h1 (by decide) (by decide) (by omega)).imp ?_
      rintro _ _ ⟨g, w2, rfl, g0, g1, rfl, h2⟩
      walk_at "r"
      refine (draw_ok h2 (by decide) (by decide) (by omega)).imp ?_
      rintro _ _ ⟨k, w3, rfl, k0, k1, rfl, h3⟩
      walk_at "r"
      refine ROk.of_eq (lean_eq (by omega)) ?_
      exact ⟨_, w3, rfl, qb_of (by omega) (by omega) (by omega) (by omega), rfl, h3⟩
  refine ⟨fun _ => ?_, fun _ => ?_⟩
  · walk_at "r"
    refine ⟨fun _ => ?_, fun _ => ?_⟩
    · walk_at "r"
      have h1 : WellOk (N + 1) [.int a, .int b, .int c, .int 0] := ⟨a, b, c, 0, rfl, hb0, hb1, hc0, hc1⟩
      refine (draw_ok h1 (by decide) (by decide) (by omega)).imp ?_
      rintro _ _ ⟨g, w2, rfl, g0, g1, rfl, h2⟩
      walk_at "r"
      refine (draw_ok h2 (by decide) (by decide) (by omega)).imp ?_
      rintro _ _ ⟨k, w3, rfl, k0, k1, rfl, h3⟩
      walk_at "r"
      refine ROk.of_eq (lean_eq (by omega)) ?_
      exact ⟨_, w3, rfl, qb_of (by omega) (by omega) (by omega) (by omega), rfl, h3⟩
    · exact Fine.seq_nx (small _ h1)
  · exact br_f rfl (Fine.seq_nx (small _ h1))
end Mir
/-! Rows, tables that the laws draw. -/
namespace Mir
open PySem L2 ML
theorem rngD_len (lo : Int) (n : Nat) : (rngD lo n).length = n := by unfold rngD; simp
/-- a table's rows have one length, its numbers are small -/
structure Grid (t w b : Nat) (g : List (List Rat)) : Prop where
  tall : g.length = t
  wide : ∀ r ∈ g, r.length = w
  qb : ∀ r ∈ g, ∀ q ∈ r, Qb b q
theorem many_ok {N : Nat} {w : List D} (h : WellOk N w) (hN : N < 2 ^ 60) : ROk (mir__law_many [.list w]) fun d o => ∃ (n : Nat) (w' : List D), d = .int (n : Int) ∧ 1 ≤ n ∧ n ≤ 5 ∧ o = some (.list w') ∧ WellOk (N + 1) w' := by
  unfold mir__law_many
  refine ROk.mDef (env := [some _]) rfl rfl ?_
  unfold body__law_many
  walk_at "r"
  refine (draw_ok h (by decide) (by decide) (by omega)).imp ?_
  rintro _ _ ⟨f, w1, rfl, f0, f1, rfl, h1⟩
  walk_at "r"
  obtain ⟨d, hd, hm⟩ := dIx_mem (xs := [.int 2, .int 3, .int 3, .int 2, .int 4, .int 1, .int 3, .int 2, .int 5, .int 3, .int 4, .int 2]) f0 f1
  refine ⟨d, hd, ?_⟩
  walk_at "r"
  have : ∃ i : Nat, d = .int (i : Int) ∧ 1 ≤ i ∧ i ≤ 5 := by
    simp only [List.mem_cons, List.not_mem_nil, or_false] at hm
    rcases hm with rfl | rfl | rfl | rfl | rfl | rfl | rfl | rfl | rfl | rfl | rfl | rfl <;> first
      | exact ⟨1, rfl, by decide, by decide⟩
      | exact ⟨2, rfl, by decide, by decide⟩
      | exact ⟨3, rfl, by decide, by decide⟩
      | exact ⟨4, rfl, by decide, by decide⟩
      | exact ⟨5, rfl, by decide, by decide⟩
  obtain ⟨i, rfl, i0, i1⟩ := this
  exact ⟨i, w1, rfl, i0, i1, rfl, h1⟩
end Mir
/-! Rules over what lists of data stand for. -/
namespace Mir
open PySem L2
namespace Fine
theorem each_map {e : ME} {Q : Fl → ME → Prop} {α : Type} {g : D → M Unit} {b : M Fl} (en : α → D) (I : List α → ME → Prop) (step : ∀ x r e, I (x :: r) e → Fine (g (en x) e) fun _ e1 => Fine (b e1) fun fl e2 => match fl with
    | .nx => I r e2
    | .ct => I r e2
    | .bk => Q .nx e2
    | .rt d => Q (.rt d) e2) (fin : ∀ e, I [] e → Q .nx e) (xs : List α) (h : I xs e) : Fine (mEach g b (xs.map en) e) Q :=
  each_inv (fun r e => ∃ ys, r = ys.map en ∧ I ys e) (fun d r e ⟨ys, h1, h2⟩ => by
    cases ys with
    | nil => cases h1
    | cons y ys =>
      simp only [List.map_cons, List.cons.injEq] at h1
      obtain ⟨rfl, rfl⟩ := h1
      refine (step y ys e h2).imp fun _ e1 h3 => h3.imp fun fl e2 h4 => ?_
      cases fl with
      | nx => exact ⟨ys, rfl, h4⟩
      | ct => exact ⟨ys, rfl, h4⟩
      | bk => exact h4
      | rt d => exact h4) (fun e ⟨ys, h1, h2⟩ => by
    cases ys with
    | nil => exact fin e h2
    | cons y ys => cases h1) _ _ ⟨xs, rfl, h⟩
variable {e : ME} {us : List Nat} {g : D → M Unit} {el : M D} {src : M (List D)} {Q : D → ME → Prop} {α : Type}
/-- [el for g in src], what is walked by what it stands for; nothing else changes -/
theorem comp_en (xs : List α) (en : α → D) (F : α → D) (hs : Fine (src e) fun ds' e1 => ds' = xs.map en ∧ e1 = e) (hf : xs.length ≤ 100000) (hel : ∀ x ∈ xs, Fine (g (en x) (wipeE e us)) fun _ e1 => Fine (el e1) fun y e2 => y = F x ∧ wipeE e2 us = wipeE e us) (q : Q (.list (xs.map F)) e) : Fine (mComp us src g mYes el e) Q := by
  refine comp (hs.imp fun ds' e1 ⟨h1, h2⟩ => ?_)
  subst h1 h2
  refine col_inv (fun r acc e' => ∃ p ys, xs = p ++ ys ∧ r = ys.map en ∧ acc = p.map F ∧ e' = wipeE e1 us) (fun d r acc e' ⟨p, ys, hp, hr, ha, he⟩ => ?_) (fun acc e' ⟨p, ys, hp, hr, ha, he⟩ => ?_) (xs.map en) [] _ ⟨[], xs, rfl, rfl, rfl, rfl⟩
  · subst he
    cases ys with
    | nil => cases hr
    | cons y ys =>
      simp only [List.map_cons, List.cons.injEq] at hr
      obtain ⟨rfl, rfl⟩ := hr
      refine (hel y (by rw [hp]; simp)).imp fun _ e2 h => yes ⟨fun _ => h.imp fun z e3 ⟨hy, hw⟩ => ⟨?_, p ++ [y], ys, by rw [hp]; simp, rfl, by rw [ha, hy]; simp, hw⟩, fun z => by cases z⟩
      refine decide_eq_true ?_
      have := congrArg List.length hp
      simp at this
      rw [ha, List.length_map]
      omega
  · have hy : ys = [] := by
      cases ys with
      | nil => rfl
      | cons y ys => cases hr
    subst hy
    rw [List.append_nil] at hp
    subst hp
    rw [ha, he, unwipe_wipe us e1 _ (wipe_idem us e1)]
    exact q
/-- tuple(el for g in src) -/
theorem tupG_en (xs : List α) (en : α → D) (F : α → D) (hs : Fine (src e) fun ds' e1 => ds' = xs.map en ∧ e1 = e) (hf : xs.length ≤ 100000) (hel : ∀ x ∈ xs, Fine (g (en x) (wipeE e us)) fun _ e1 => Fine (el e1) fun y e2 => y = F x ∧ wipeE e2 us = wipeE e us) (q : Q (.tuple (xs.map F)) e) : Fine (mTupG us src g el e) Q := by
  refine tupG (hs.imp fun ds' e1 ⟨h1, h2⟩ => ?_)
  subst h1 h2
  refine gen_inv (fun r acc e' => ∃ p ys, xs = p ++ ys ∧ r = ys.map en ∧ acc = p.map F ∧ e' = wipeE e1 us) (fun d r acc e' ⟨p, ys, hp, hr, ha, he⟩ => ?_) (fun acc e' ⟨p, ys, hp, hr, ha, he⟩ => ?_) (xs.map en) [] _ ⟨[], xs, rfl, rfl, rfl, rfl⟩
  · subst he
    cases ys with
    | nil => cases hr
    | cons y ys =>
      simp only [List.map_cons, List.cons.injEq] at hr
      obtain ⟨rfl, rfl⟩ := hr
      refine ⟨?_, (hel y (by rw [hp]; simp)).imp fun _ e2 h => h.imp fun z e3 ⟨hy, hw⟩ => ⟨p ++ [y], ys, by rw [hp]; simp, rfl, by rw [ha, hy]; simp, hw⟩⟩
      refine decide_eq_true ?_
      have := congrArg List.length hp
      simp at this
      rw [ha, List.length_map]
      omega
  · have hy : ys = [] := by
      cases ys with
      | nil => rfl
      | cons y ys => cases hr
    subst hy
    rw [List.append_nil] at hp
    subst hp
    rw [ha, he, unwipe_wipe us e1 _ (wipe_idem us e1)]
    exact ⟨decide_eq_true (by rw [List.length_map]; exact hf), q⟩
end Fine
theorem rngD_map (n : Nat) : rngD 0 n = (List.range n).map fun (i : Nat) => PyData.int (i : Int) := by
  unfold rngD
  refine List.map_congr_left fun i _ => ?_
  rw [Int.zero_add]
end Mir
/-! Products. -/
namespace Mir
open PySem L2 ML
def qdot : List Rat → List Rat → Rat
  | a :: r, b :: s => a * b + qdot r s
  | _, _ => 0
theorem atI_of {α : Type} {xs : List α} {i : Nat} (h : i < xs.length) : atI xs (i : Int) = some xs[i] := by
  unfold atI ixN
  rw [if_pos (by omega), if_pos (by omega)]
  exact List.getElem?_eq_getElem (by omega)
theorem dIx_row {r : List Rat} {i : Nat} (h : i < r.length) : dIx (encRow r) (.int (i : Int)) = some (encQ (r.getD i 0)) := by
  show atI (r.map encQ) (i : Int) = _
  rw [atI_of (by rw [List.length_map]; exact h), List.getElem_map, List.getD_eq_getElem?_getD, List.getElem?_eq_getElem h]
  rfl
theorem dIx_tab {g : List (List Rat)} {i : Nat} (h : i < g.length) : dIx (encTab g) (.int (i : Int)) = some (encRow (g.getD i [])) := by
  show atI (g.map encRow) (i : Int) = _
  rw [atI_of (by rw [List.length_map]; exact h), List.getElem_map, List.getD_eq_getElem?_getD, List.getElem?_eq_getElem h]
  rfl
theorem zip_enc (r s : List Rat) : ((r.map encQ).zip (s.map encQ)).map (fun p => PyData.tuple [p.1, p.2]) = (r.zip s).map fun p => PyData.tuple [encQ p.1, encQ p.2] := by
  rw [List.zip_map, List.map_map]
  rfl
theorem rat_nd (q : Rat) : (q.num : Rat) / (q.den : Rat) = q := by
  have h := Rat.num_divInt_den q
  rw [Rat.divInt_eq_div, Rat.intCast_natCast] at h
  exact h
theorem den_ne (q : Rat) : (q.den : Rat) ≠ 0 := by
  have := q.den_nz
  intro h
  apply this
  have h2 : ((q.den : Int) : Rat) = ((0 : Int) : Rat) := by rw [Rat.intCast_natCast]; exact h
  have := Rat.intCast_inj.mp h2
  omega
def psum : List (Rat × Rat) → Rat
  | [] => 0
  | p :: r => p.1 * p.2 + psum r
theorem psum_zip : ∀ (r s : List Rat), psum (r.zip s) = qdot r s
  | [], _ => by simp [psum, qdot]
  | _ :: _, [] => by simp [psum, qdot]
  | a :: r, b :: s => by simp [psum, qdot, psum_zip r s]
theorem pow2_mul (a b : Nat) : 2 ^ a * 2 ^ b = 2 ^ (a + b) := (Nat.pow_add 2 a b).symm
theorem mul_le_pow {x y a b : Nat} (h1 : x ≤ 2 ^ a) (h2 : y ≤ 2 ^ b) : x * y ≤ 2 ^ (a + b) := by rw [← pow2_mul]; exact Nat.mul_le_mul h1 h2
theorem log_le {n k m : Nat} (h : n ≤ 2 ^ k) (hm : k < m) : n.log2 < m := log_lt (by omega) (Nat.lt_of_le_of_lt h (Nat.pow_lt_pow_right (by decide) hm))
theorem ldot_eq {r s : List Rat} {b n : Nat} (hr : ∀ q ∈ r, Qb b q) (hs : ∀ q ∈ s, Qb b q) (hn : r.length ≤ n) (hb : (2 * b + 1) * n < 20000000) : mir__law_dot [encRow r, encRow s] = .ok (encQ (qdot r s)) none ∧ Qb ((2 * b + 1) * n + 1) (qdot r s) := by
  have key : ROk (mir__law_dot [encRow r, encRow s]) fun d o => (d = encQ (qdot r s) ∧ o = none) ∧ Qb ((2 * b + 1) * n + 1) (qdot r s) := by
    unfold mir__law_dot
    refine ROk.mDef (env := [some _, some _, none, none, none, none, none]) rfl rfl ?_
    unfold body__law_dot
    walk_at "r"
    refine Fine.zipT ?_
    walk_at "r"
    refine ⟨_, _, rfl, ?_⟩
    rw [zip_enc]
    refine Fine.each_map (fun p : Rat × Rat => PyData.tuple [encQ p.1, encQ p.2]) (fun rem e => ∃ (k : Nat) (t l : Int) (x y z : Option D), e = [some (encRow r), some (encRow s), some (.int t), some (.int l), x, y, z] ∧ k + rem.length = (r.zip s).length ∧ 0 < l ∧ l.natAbs ≤ 2 ^ ((2 * b + 1) * k) ∧ t.natAbs ≤ 2 ^ ((2 * b + 1) * k) ∧ (t : Rat) / (l : Rat) + psum rem = qdot r s ∧ ∀ p ∈ rem, Qb b p.1 ∧ Qb b p.2) ?_ ?_ _ ?_
    · rintro ⟨p, q⟩ rem e ⟨k, t, l, x, y, z, rfl, hk, hl, hl2, ht, hs, hq⟩
      obtain ⟨hp, hq'⟩ := hq (p, q) List.mem_cons_self
      dsimp only at hp hq'
      rw [List.length_cons] at hk
      have hkn : k + 1 ≤ n := by
        have := List.length_zip (l₁ := r) (l₂ := s)
        omega
      have hE : (2 * b + 1) * (k + 1) ≤ (2 * b + 1) * n := Nat.mul_le_mul_left _ hkn
      rw [Nat.mul_add, Nat.mul_one] at hE
      have hb1 : (2 * b + 1) * k + (2 * b + 1) < 20000000 := by omega
      have p1 : ((p.den : Int)).natAbs ≤ 2 ^ b := by have := hp.den; omega
      have q1 : ((q.den : Int)).natAbs ≤ 2 ^ b := by have := hq'.den; omega
      have p2 : p.num.natAbs ≤ 2 ^ b := by have := hp.num; omega
      have q2 : q.num.natAbs ≤ 2 ^ b := by have := hq'.num; omega
      have both : ((p.den : Int) * (q.den : Int)).natAbs ≤ 2 ^ (b + b) := by rw [Int.natAbs_mul]; exact mul_le_pow p1 q1
      have tops : (p.num * q.num).natAbs ≤ 2 ^ (b + b) := by rw [Int.natAbs_mul]; exact mul_le_pow p2 q2
      have m1 : (t * ((p.den : Int) * (q.den : Int))).natAbs ≤ 2 ^ ((2 * b + 1) * k + (b + b)) := by rw [Int.natAbs_mul]; exact mul_le_pow ht both
      have m2 : (p.num * q.num * l).natAbs ≤ 2 ^ ((b + b) + (2 * b + 1) * k) := by rw [Int.natAbs_mul]; exact mul_le_pow tops hl2
      have m3 : (l * ((p.den : Int) * (q.den : Int))).natAbs ≤ 2 ^ ((2 * b + 1) * k + (b + b)) := by rw [Int.natAbs_mul]; exact mul_le_pow hl2 both
      walk_at "r"
      refine ⟨_, dMul_int (log_le p1 (by omega)) (log_le q1 (by omega)), ?_⟩
      walk_at "r"
      refine ⟨_, dMul_int (log_le ht (by omega)) (log_le both (by omega)), ?_⟩
      walk_at "r"
      refine ⟨_, dMul_int (log_le p2 (by omega)) (log_le q2 (by omega)), ?_⟩
      walk_at "r"
      refine ⟨_, dMul_int (log_le tops (by omega)) (log_le hl2 (by omega)), ?_⟩
      walk_at "r"
      refine ⟨_, dMul_int (log_le hl2 (by omega)) (log_le both (by omega)), ?_⟩
      walk_at "r"
      have pd : 0 < (p.den : Int) := by have := p.den_nz; omega
      have qd : 0 < (q.den : Int) := by have := q.den_nz; omega
      refine ⟨k + 1, _, _, _, _, _, rfl, by omega, Int.mul_pos hl (Int.mul_pos pd qd), ?_, ?_, ?_, fun p h => hq p (List.mem_cons_of_mem _ h)⟩
      · refine Nat.le_trans m3 (Nat.pow_le_pow_right (by decide) ?_)
        rw [Nat.mul_add]; omega
      · refine Nat.le_trans (Int.natAbs_add_le _ _) ?_
        have e1 : (2 * b + 1) * k + (b + b) = (b + b) + (2 * b + 1) * k := Nat.add_comm _ _
        rw [e1] at m1
        have e2 : (2 * b + 1) * (k + 1) = ((b + b) + (2 * b + 1) * k) + 1 := by rw [Nat.mul_add]; omega
        rw [e2, Nat.pow_succ]
        refine Nat.le_trans (Nat.add_le_add m1 m2) (Nat.le_of_eq ?_)
        rw [Nat.mul_two]
      · have z1 := rat_nd p
        have z2 := rat_nd q
        have d1 := den_ne p
        have d2 := den_ne q
        have d3 : (l : Rat) ≠ 0 := by
          intro h
          have := Rat.intCast_inj.mp (show (l : Rat) = ((0 : Int) : Rat) from h)
          omega
        rw [← hs]
        simp only [psum, Rat.intCast_add, Rat.intCast_mul, Rat.intCast_natCast]
        generalize (p.num : Rat) = pn at *
        generalize (q.num : Rat) = qn at *
        generalize (p.den : Rat) = pd at *
        generalize (q.den : Rat) = qd at *
        subst z1 z2
        grind
    · rintro e ⟨k, t, l, x, y, z, rfl, hk, hl, hl2, ht, hs, hq⟩
      refine .inl ⟨rfl, ?_⟩
      walk_at "r"
      simp only [psum, Rat.add_zero] at hs
      have hkn : k ≤ n := by
        have := List.length_zip (l₁ := r) (l₂ := s)
        simp only [List.length_nil] at hk
        omega
      have hE : (2 * b + 1) * k ≤ (2 * b + 1) * n := Nat.mul_le_mul_left _ hkn
      have e : Rat.divInt t l = qdot r s := by rw [Rat.divInt_eq_div]; exact hs
      have h1 : ∀ x : Nat, x ≤ 2 ^ ((2 * b + 1) * k) → x < 2 ^ ((2 * b + 1) * n + 1) := fun x hx => Nat.lt_of_le_of_lt hx (Nat.pow_lt_pow_right (by decide) (by omega))
      refine ROk.of_eq (lean_eq (by omega)) ⟨⟨by rw [e], rfl⟩, ?_⟩
      rw [← e]
      exact qb_divInt (by omega) (h1 _ ht) (h1 _ hl2)
    · refine ⟨0, 0, 1, _, _, _, rfl, by rw [Nat.zero_add], by decide, ?_, by simp, ?_, fun p hp => ?_⟩
      · rw [Nat.mul_zero]; decide
      · rw [psum_zip]; simp; grind
      · obtain ⟨h1, h2⟩ := List.of_mem_zip (a := p.1) (b := p.2) hp
        exact ⟨hr _ h1, hs _ h2⟩
  obtain ⟨d, o, h1, ⟨h2, h3⟩, h4⟩ := key.ex
  exact ⟨by rw [h1, h2, h3], h4⟩
end Mir
/-! The program's own arithmetic. -/
namespace Mir
open PySem L2 ML
theorem fraction_eq {t l : Int} (h0 : l ≠ 0) : mir_fraction [.int t, .int l] = .ok (encQ (Rat.divInt t l)) none := by
  refine ROk.eq ?_
  unfold mir_fraction
  refine ROk.mDef (env := [some _, some _, none]) rfl rfl ?_
  unfold body_fraction
  have gp := iGcd_pos (a := t) h0
  walk_at "r"
  refine ⟨fun h => ?_, fun h => ?_⟩
  · have h : l < 0 := of_decide_eq_true h
    walk_at "r"
    refine ⟨_, dDivP_int (by omega), ?_⟩
    walk_at "r"
    refine ⟨_, dDivP_int (by omega), ?_⟩
    walk_at "r"
    exact ⟨(low_neg h).symm, rfl⟩
  · have h : ¬ l < 0 := of_decide_eq_false h
    walk_at "r"
    refine ⟨_, dDivP_int (by omega), ?_⟩
    walk_at "r"
    refine ⟨_, dDivP_int (by omega), ?_⟩
    walk_at "r"
    exact ⟨(low_pos (by omega)).symm, rfl⟩
end Mir
/-! Tables turned over, parts of them, their products. -/
namespace Mir
open PySem L2 ML
def flipT (g : List (List Rat)) (w : Nat) : List (List Rat) := (List.range w).map fun j => g.map fun r => r.getD j 0
def mulT (a b : List (List Rat)) (w : Nat) : List (List Rat) := a.map fun r => (flipT b w).map fun c => qdot r c
def subT (g : List (List Rat)) (I J : List Nat) : List (List Rat) := I.map fun i => J.map fun j => (g.getD i []).getD j 0
theorem Grid.mono {t w b c : Nat} {g : List (List Rat)} (h : Grid t w b g) (hl : b ≤ c) : Grid t w c g := ⟨h.tall, h.wide, fun r hr q hq => (h.qb r hr q hq).mono hl⟩
theorem Grid.row {t w b : Nat} {g : List (List Rat)} (h : Grid t w b g) {i : Nat} (hi : i < t) : (g.getD i []).length = w ∧ (g.getD i []) ∈ g := by
  have hl : i < g.length := by rw [h.tall]; exact hi
  rw [List.getD_eq_getElem?_getD, List.getElem?_eq_getElem hl]
  exact ⟨h.wide _ (List.getElem_mem hl), List.getElem_mem hl⟩
theorem qb_zero (b : Nat) (hb : 0 < b) : Qb b 0 := by
  have h1 : 1 < 2 ^ b := Nat.one_lt_two_pow (by omega)
  exact ⟨by show (0 : Int).natAbs < _; omega, by show 1 < _; exact h1⟩
theorem getD_mem {α : Type} {r : List α} {i : Nat} {d : α} (h : i < r.length) : r.getD i d ∈ r := by
  rw [List.getD_eq_getElem?_getD, List.getElem?_eq_getElem h]
  exact List.getElem_mem h
theorem Grid.flip {t w b : Nat} {g : List (List Rat)} (h : Grid t w b g) : Grid w t b (flipT g w) := by
  refine ⟨by unfold flipT; simp, fun r hr => ?_, fun r hr q hq => ?_⟩
  · unfold flipT at hr
    obtain ⟨j, _, rfl⟩ := List.mem_map.mp hr
    rw [List.length_map]
    exact h.tall
  · unfold flipT at hr
    obtain ⟨j, hj, rfl⟩ := List.mem_map.mp hr
    obtain ⟨s, hs, rfl⟩ := List.mem_map.mp hq
    have hj := List.mem_range.mp hj
    exact h.qb s hs _ (getD_mem (by rw [h.wide s hs]; exact hj))
theorem lflip_eq {t w b : Nat} {g : List (List Rat)} (h : Grid t w b g) (h0 : 0 < t) (ht : t ≤ 1000) (hw : w ≤ 1000) : mir__law_flip [encTab g] = .ok (encTab (flipT g w)) none := by
  refine ROk.eq ?_
  unfold mir__law_flip
  refine ROk.mDef (env := [some _, none, none]) rfl rfl ?_
  unfold body__law_flip
  walk_at "s"
  walk_at "s"
  refine Fine.cons (Fine.comp_en (List.range w) (fun (i : Nat) => PyData.int (i : Int)) (fun j => encRow (g.map fun r => r.getD j 0)) ?_ (by simp; omega) ?_ ?_)
  · obtain ⟨r0, r1⟩ := h.row h0
    walk_at "r"
    refine ⟨_, dIx_tab (i := 0) (by rw [h.tall]; exact h0), ?_⟩
    walk_at "r"
    rw [List.length_map, r0]
    exact ⟨by omega, rngD_map w, rfl⟩
  · intro j hj
    have hj := List.mem_range.mp hj
    walk_at "s"
    walk_at "s"
    refine Fine.cons (Fine.comp_en g encRow (fun r => encQ (r.getD j 0)) ?_ (by rw [h.tall]; omega) ?_ ?_)
    · walk_at "r"
      rfl
    · intro r hr
      walk_at "r"
      exact ⟨_, dIx_row (by rw [h.wide r hr]; exact hj), rfl, rfl⟩
    · walk_at "s"
      walk_at "s"
      refine ⟨?_, rfl⟩
      unfold encRow
      rw [List.map_map]
      rfl
  · walk_at "s"
    walk_at "s"
    unfold FlQ
    refine ⟨?_, rfl⟩
    unfold encTab flipT
    rw [List.map_map]
    rfl
end Mir
/-! Products of tables, their parts. -/
namespace Mir
open PySem L2 ML
abbrev enI : Nat → D := fun (i : Nat) => PyData.int (i : Int)
theorem Grid.mul {t n w b : Nat} {x y : List (List Rat)} (hx : Grid t n b x) (hy : Grid n w b y) (hb : (2 * b + 1) * n < 20000000) : Grid t w ((2 * b + 1) * n + 1) (mulT x y w) := by
  have hf := hy.flip
  refine ⟨by unfold mulT; rw [List.length_map]; exact hx.tall, fun r hr => ?_, fun r hr q hq => ?_⟩
  · unfold mulT at hr
    obtain ⟨r', _, rfl⟩ := List.mem_map.mp hr
    rw [List.length_map]
    exact hf.tall
  · unfold mulT at hr
    obtain ⟨r', h1, rfl⟩ := List.mem_map.mp hr
    obtain ⟨c, h2, rfl⟩ := List.mem_map.mp hq
    exact (ldot_eq (hx.qb r' h1) (hf.qb c h2) (by rw [hx.wide r' h1]; exact Nat.le_refl _) hb).2
theorem lmul_eq {t n w b : Nat} {x y : List (List Rat)} (hx : Grid t n b x) (hy : Grid n w b y) (ht : t ≤ 1000) (hn0 : 0 < n) (hn : n ≤ 1000) (hw : w ≤ 1000) (hb : (2 * b + 1) * n < 20000000) : mir__law_mul [encTab x, encTab y] = .ok (encTab (mulT x y w)) none := by
  refine ROk.eq ?_
  unfold mir__law_mul
  refine ROk.mDef (env := [some _, some _, none, none, none]) rfl rfl ?_
  unfold body__law_mul
  have hf := hy.flip
  walk_at "r"
  refine ROk.of_eq (lflip_eq hy hn0 hn hw) ?_
  walk_at "s"
  walk_at "s"
  walk_at "s"
  walk_at "s"
  refine Fine.cons (Fine.comp_en x encRow (fun r => encRow ((flipT y w).map fun c => qdot r c)) ?_ (by rw [hx.tall]; omega) ?_ ?_)
  · walk_at "r"
    rfl
  · intro r hr
    walk_at "s"
    walk_at "s"
    refine Fine.cons (Fine.comp_en (flipT y w) encRow (fun c => encQ (qdot r c)) ?_ (by rw [hf.tall]; omega) ?_ ?_)
    · walk_at "r"
      rfl
    · intro c hc
      walk_at "r"
      exact ROk.of_eq (ldot_eq (hx.qb r hr) (hf.qb c hc) (by rw [hx.wide r hr]; exact Nat.le_refl _) hb).1 ⟨rfl, rfl⟩
    · walk_at "s"
      walk_at "s"
      refine ⟨?_, rfl⟩
      unfold encRow
      rw [List.map_map]
      rfl
  · walk_at "s"
    walk_at "s"
    unfold FlQ
    refine ⟨?_, rfl⟩
    unfold encTab mulT
    rw [List.map_map]
    rfl
end Mir
/-! What is a fraction, a row, a table: of anything. -/
namespace Mir
open PySem L2 ML
def isWh : D → Bool
  | .int _ => true
  | _ => false
def isFr : D → Bool
  | .tuple [.int a, .int b] => decide (0 < b) && decide (iGcd a b = 1)
  | _ => false
def isRw (n : Nat) : D → Bool
  | .tuple xs => decide (xs.length = n) && xs.all isFr
  | _ => false
def isTb : D → Bool
  | .tuple (x :: xs) => decide ((x :: xs).length ≤ 6) && (match x with
    | .tuple ys => decide (1 ≤ ys.length) && (decide (ys.length ≤ 6) && (x :: xs).all (isRw ys.length))
    | _ => false)
  | _ => false
theorem isWh_eq (d : D) : mir_is_whole [d] = .ok (.bool (isWh d)) none := by cases d <;> rfl
theorem lisWh_eq (d : D) : mir__law_is_whole [d] = .ok (.bool (isWh d)) none := by cases d <;> rfl
def isTup (n : Nat) : D → Bool
  | .tuple xs => decide (xs.length = n)
  | _ => false
theorem len_eqv {α : Type} (xs : List α) (n : Nat) : (PyData.int (xs.length : Int)).eqv (.int (n : Int)) = decide (xs.length = n) := by
  simp only [PyData.eqv]
  by_cases h : xs.length = n
  · simp [h]
  · simp [h]; omega
theorem isTup_eq (d : D) (n : Nat) : mir_is_tuple_of [d, .int (n : Int)] = .ok (.bool (isTup n d)) none := by
  refine ROk.eq ?_
  unfold mir_is_tuple_of
  refine ROk.mDef (env := [some _, some _]) rfl rfl ?_
  unfold body_is_tuple_of
  cases d with
  | tuple xs =>
    walk_at "r"
    refine ⟨?_, rfl⟩
    rw [if_neg Bool.false_ne_true, len_eqv]
    rfl
  | _ => walk_at "r"; exact ⟨rfl, rfl⟩
/-- a whole number within bounds -/
def isBtw (a b : Int) : D → Bool
  | .int i => decide (a ≤ i) && decide (i ≤ b)
  | _ => false
theorem isBtw_eq (d : D) (a b : Int) : mir_is_between [d, .int a, .int b] = .ok (.bool (isBtw a b d)) none := by
  refine ROk.eq ?_
  unfold mir_is_between
  refine ROk.mDef (env := [some _, some _, some _]) rfl rfl ?_
  unfold body_is_between
  walk_at "r"
  refine ROk.of_eq (isWh_eq d) ?_
  refine ⟨_, rfl, fun h => ?_, fun h => ?_⟩
  · cases d <;> simp only [isWh, reduceCtorEq] at h
    walk_at "r"
    exact ⟨rfl, rfl⟩
  · refine ⟨?_, rfl⟩
    cases d <;> first | rfl | (simp only [isWh, reduceCtorEq] at h)
theorem isFr_eq (d : D) : mir_is_fraction [d] = .ok (.bool (isFr d)) none := by
  refine ROk.eq ?_
  unfold mir_is_fraction
  refine ROk.mDef (env := [some _, none, none]) rfl rfl ?_
  unfold body_is_fraction
  walk_at "r"
  refine ROk.of_eq (isTup_eq d 2) ?_
  refine ⟨_, rfl, ?_⟩
  refine ⟨fun h => ?_, fun h => ?_⟩
  · walk_at "r"
    refine ⟨?_, rfl⟩
    have h : isTup 2 d = false := by simpa using h
    match d with
    | .tuple [] => rfl
    | .tuple [x] => cases x <;> rfl
    | .tuple [_, _] => simp [isTup] at h
    | .tuple (x :: y :: _ :: _) => cases x <;> cases y <;> rfl
    | .none => rfl
    | .bool _ => rfl
    | .int _ => rfl
    | .str _ => rfl
    | .list _ => rfl
    | .dict _ => rfl
  · have h : isTup 2 d = true := by simpa using h
    cases d with
    | tuple xs =>
      match xs with
      | [] => simp [isTup] at h
      | [_] => simp [isTup] at h
      | _ :: _ :: _ :: xs => simp [isTup] at h
      | [x, y] =>
        walk_at "r"
        refine ROk.of_eq (isWh_eq x) ?_
        refine ⟨_, rfl, fun hx => ?_, fun hx => ?_⟩
        · walk_at "r"
          refine ROk.of_eq (isWh_eq y) ?_
          refine ⟨_, rfl, fun hy => ?_, fun hy => ?_⟩
          · obtain ⟨a, rfl⟩ : ∃ a, x = .int a := by cases x <;> first | exact ⟨_, rfl⟩ | cases hx
            obtain ⟨b, rfl⟩ : ∃ a, y = .int a := by cases y <;> first | exact ⟨_, rfl⟩ | cases hy
            walk_at "r"
            refine ⟨fun h0 => ?_, fun h0 => ?_⟩
            · walk_at "r"
              refine ⟨?_, rfl⟩
              have h0 : 0 < b := of_decide_eq_true h0
              simp only [isFr, h0, PyData.eqv, decide_true, Bool.true_and]
              rfl
            · refine ⟨?_, rfl⟩
              have h0 : ¬ 0 < b := of_decide_eq_false h0
              simp [isFr, h0]
          · refine ⟨?_, rfl⟩
            cases x <;> cases y <;> first | rfl | (simp only [isWh, reduceCtorEq] at hy)
        · refine ⟨?_, rfl⟩
          cases x <;> first | rfl | (simp only [isWh, reduceCtorEq] at hx)
    | _ => cases h
theorem isRw_eq (d : D) {n : Nat} (hn : n ≤ 1000) : mir_is_row [d, .int (n : Int)] = .ok (.bool (isRw n d)) none := by
  refine ROk.eq ?_
  unfold mir_is_row
  refine ROk.mDef (env := [some _, some _, none]) rfl rfl ?_
  unfold body_is_row
  walk_at "r"
  refine ROk.of_eq (isTup_eq d n) ?_
  refine ⟨_, rfl, fun h => ?_, fun h => ?_⟩
  · cases d with
    | tuple xs =>
      have hl : xs.length = n := of_decide_eq_true h
      walk_at "r"
      refine Fine.allG_all (ds := xs) isFr ?_ (by omega) ?_ ?_
      · walk_at "r"
        rfl
      · intro x hx
        walk_at "r"
        exact ROk.of_eq (isFr_eq x) ⟨rfl, rfl⟩
      · refine ⟨?_, rfl⟩
        simp only [isRw, hl, decide_true, Bool.true_and]
    | _ => cases h
  · refine ⟨?_, rfl⟩
    cases d with
    | tuple xs =>
      have h : decide (xs.length = n) = false := h
      simp only [isRw, h, Bool.false_and]
    | _ => rfl
theorem dIx0 (x : D) (xs : List D) : dIx (.tuple (x :: xs)) (.int 0) = some x := atI_of (xs := x :: xs) (i := 0) (by simp)
theorem isTb_eq (d : D) : mir_is_table [d] = .ok (.bool (isTb d)) none := by
  refine ROk.eq ?_
  unfold mir_is_table
  refine ROk.mDef (env := [some _, none, none]) rfl rfl ?_
  unfold body_is_table
  cases d with
  | tuple xs =>
    walk_at "r"
    refine ⟨fun h => ?_, fun h => ?_⟩
    · walk_at "r"
      refine ⟨?_, rfl⟩
      have h : ¬ (1 ≤ xs.length ∧ xs.length ≤ 6) := by
        intro ⟨h1, h2⟩
        simp only [Bool.not_eq_true', Bool.and_eq_false_iff, decide_eq_false_iff_not] at h
        omega
      cases xs with
      | nil => rfl
      | cons x xs =>
        simp only [List.length_cons] at h
        simp only [isTb, List.length_cons]
        rw [decide_eq_false (by omega)]
        rfl
    · have h : 1 ≤ xs.length ∧ xs.length ≤ 6 := by
        simp only [Bool.not_eq_false', Bool.and_eq_true, decide_eq_true_eq] at h
        omega
      cases xs with
      | nil => simp at h
      | cons x xs =>
        walk_at "r"
        refine ⟨x, dIx0 x xs, ?_⟩
        walk_at "r"
        have e0 : decide ((x :: xs).length ≤ 6) = true := decide_eq_true h.2
        cases x with
        | tuple ys =>
          walk_at "r"
          refine ⟨fun h2 => ?_, fun h2 => ?_⟩
          · walk_at "r"
            refine ⟨?_, rfl⟩
            have h2 : ¬ (1 ≤ ys.length ∧ ys.length ≤ 6) := by
              intro ⟨h1, h3⟩
              simp only [Bool.not_eq_true', Bool.and_eq_false_iff, decide_eq_false_iff_not] at h2
              omega
            simp only [isTb, e0, Bool.true_and]
            by_cases z : 1 ≤ ys.length
            · rw [decide_eq_false (p := ys.length ≤ 6) (by omega), Bool.false_and, Bool.and_false]
            · rw [decide_eq_false z, Bool.false_and]
          · have h2 : 1 ≤ ys.length ∧ ys.length ≤ 6 := by
              simp only [Bool.not_eq_false', Bool.and_eq_true, decide_eq_true_eq] at h2
              omega
            walk_at "r"
            refine Fine.allG_all (ds := .tuple ys :: xs) (isRw ys.length) ?_ (by simp only [List.length_cons] at h ⊢; omega) ?_ ?_
            · walk_at "r"
              rfl
            · intro x hx
              walk_at "r"
              exact ROk.of_eq (isRw_eq x (by omega)) ⟨rfl, rfl⟩
            · refine ⟨?_, rfl⟩
              simp only [isTb, e0, Bool.true_and]
              rw [decide_eq_true h2.1, decide_eq_true h2.2, Bool.true_and, Bool.true_and]
        | _ =>
          walk_at "r"
          refine ⟨?_, rfl⟩
          simp only [isTb, Bool.and_false]
  | _ => walk_at "r"; exact ⟨rfl, rfl⟩
end Mir
/-! The laws' own look at fractions, rows, tables. -/
namespace Mir
open PySem L2 ML
theorem bools_map {α : Type} (P : α → Bool) : ∀ xs : List α, bools (xs.map fun x => PyData.bool (P x)) = some (xs.map P)
  | [] => rfl
  | x :: xs => by simp [bools, bools_map P xs]
theorem dAll_map {α : Type} (P : α → Bool) (xs : List α) : dAll [.list (xs.map fun x => PyData.bool (P x))] = some (.bool (xs.all P)) := by
  simp only [dAll, bools_map, Option.map_some, List.all_map]
  rfl
end Mir
/-! More that the laws draw. -/
namespace Mir
open PySem L2 ML
theorem pick_ok {N : Nat} {w xs : List D} (h : WellOk N w) (hN : N < 2 ^ 60) (h0 : 0 < xs.length) (h1 : xs.length ≤ 100000) : ROk (mir__law_pick [.list w, .tuple xs]) fun d o => ∃ w', d ∈ xs ∧ o = some (.list w') ∧ WellOk (N + 1) w' := by
  unfold mir__law_pick
  refine ROk.mDef (env := [some _, some _]) rfl rfl ?_
  unfold body__law_pick
  walk_at "r"
  refine (draw_ok h (by omega) (by omega) (by omega)).imp ?_
  rintro _ _ ⟨f, w1, rfl, f0, f1, rfl, h1⟩
  walk_at "r"
  obtain ⟨d, hd, hm⟩ := dIx_mem (xs := xs) f0 f1
  exact ⟨d, hd, w1, hm, rfl, h1⟩
/-- ascending numbers below n -/
def Lot (n : Nat) (l : List Nat) : Prop := (∀ i ∈ l, i < n) ∧ l.Pairwise (· < ·)
end Mir
/-! Things of any kind, things bent. -/
namespace Mir
open PySem L2 ML
/-- ints below 2 ^ m, tuples of up to L elements, k deep -/
def Okd (m L : Nat) : Nat → D → Prop
  | _, .int i => i.natAbs < 2 ^ m
  | 0, .tuple xs => xs = []
  | k + 1, .tuple xs => xs.length ≤ L ∧ ∀ x ∈ xs, Okd m L k x
  | _, _ => True
theorem Okd.int {m L k : Nat} {i : Int} : Okd m L k (.int i) ↔ i.natAbs < 2 ^ m := by cases k <;> exact Iff.rfl
theorem Okd.tup {m L k : Nat} {xs : List D} : Okd m L (k + 1) (.tuple xs) ↔ xs.length ≤ L ∧ ∀ x ∈ xs, Okd m L k x := Iff.rfl
theorem Okd.nil {m L k : Nat} : Okd m L k (.tuple []) := by
  cases k with
  | zero => rfl
  | succ k => exact ⟨Nat.zero_le _, fun x hx => by cases hx⟩
theorem Okd.other {m L k : Nat} {d : D} (h1 : ∀ i, d ≠ .int i) (h2 : ∀ xs, d ≠ .tuple xs) : Okd m L k d := by
  cases d with
  | int i => exact absurd rfl (h1 i)
  | tuple xs => exact absurd rfl (h2 xs)
  | _ => cases k <;> exact True.intro
theorem Okd.mono {m m' L L' : Nat} (hm : m ≤ m') (hL : L ≤ L') : ∀ {k k' : Nat} {d : D}, k ≤ k' → Okd m L k d → Okd m' L' k' d
  | _, _, .int i, _, h => Okd.int.mpr (Nat.lt_of_lt_of_le (Okd.int.mp h) (Nat.pow_le_pow_right (by decide) hm))
  | 0, _, .tuple xs, _, h => by
    have h : xs = [] := h
    subst h
    exact Okd.nil
  | k + 1, 0, .tuple xs, hk, _ => by omega
  | k + 1, k' + 1, .tuple xs, hk, h => ⟨Nat.le_trans h.1 hL, fun x hx => Okd.mono hm hL (by omega) (h.2 x hx)⟩
  | _, _, .none, _, _ => .other (fun i h => by cases h) (fun i h => by cases h)
  | _, _, .bool _, _, _ => .other (fun i h => by cases h) (fun i h => by cases h)
  | _, _, .str _, _, _ => .other (fun i h => by cases h) (fun i h => by cases h)
  | _, _, .list _, _, _ => .other (fun i h => by cases h) (fun i h => by cases h)
  | _, _, .dict _, _, _ => .other (fun i h => by cases h) (fun i h => by cases h)
theorem Okd.len {m L k : Nat} {xs : List D} (h : Okd m L k (.tuple xs)) : xs.length ≤ L ∧ ∀ x ∈ xs, Okd m L (k - 1) x := by
  cases k with
  | zero =>
    have h : xs = [] := h
    subst h
    exact ⟨Nat.zero_le _, fun x hx => by cases hx⟩
  | succ k => exact h
def okdB (m L : Nat) : Nat → D → Bool
  | _, .int i => decide (i.natAbs < 2 ^ m)
  | 0, .tuple xs => xs.isEmpty
  | k + 1, .tuple xs => decide (xs.length ≤ L) && xs.all (okdB m L k)
  | _, _ => true
end Mir
/-! Parts, products, tables turned over, of what is a table; what is the same. -/
namespace Mir
open PySem L2 ML
theorem dIx_cell {t w b : Nat} {g : List (List Rat)} (h : Grid t w b g) {i j : Nat} (hi : i < t) (hj : j < w) : dIx (encRow (g.getD i [])) (.int (j : Int)) = some (encQ ((g.getD i []).getD j 0)) := dIx_row (by rw [(h.row hi).1]; exact hj)
theorem numbersAt_eq {t w b : Nat} {g : List (List Rat)} (h : Grid t w b g) {LI LJ : D} {I J : List Nat} (hI : dItems LI = some (I.map enI)) (hJ : dItems LJ = some (J.map enI)) (i0 : ∀ i ∈ I, i < t) (j0 : ∀ j ∈ J, j < w) (il : I.length ≤ 1000) (jl : J.length ≤ 1000) :
    mir_numbers_at [encTab g, LI, LJ] = .ok (encTab (subT g I J)) none := by
  refine ROk.eq ?_
  unfold mir_numbers_at
  refine ROk.mDef (env := [some _, some _, some _, none, none]) rfl rfl ?_
  unfold body_numbers_at
  walk_at "s"
  refine Fine.tupG_en I enI (fun i => encRow (J.map fun j => (g.getD i []).getD j 0)) ?_ (by omega) ?_ ?_
  · walk_at "r"
    exact ⟨_, hI, rfl, rfl⟩
  · intro i hi
    walk_at "s"
    refine Fine.tupG_en J enI (fun j => encQ ((g.getD i []).getD j 0)) ?_ (by omega) ?_ ?_
    · walk_at "r"
      exact ⟨_, hJ, rfl, rfl⟩
    · intro j hj
      walk_at "r"
      refine ⟨_, dIx_tab (by rw [h.tall]; exact i0 i hi), ?_⟩
      walk_at "r"
      exact ⟨_, dIx_cell h (i0 i hi) (j0 j hj), rfl, rfl⟩
    · refine ⟨?_, rfl⟩
      unfold encRow
      rw [List.map_map]
      rfl
  · unfold FlQ
    refine ⟨?_, rfl⟩
    unfold encTab subT
    rw [List.map_map]
    rfl
theorem lpiece_eq {t w b : Nat} {g : List (List Rat)} (h : Grid t w b g) {LI LJ : D} {I J : List Nat} (hI : dItems LI = some (I.map enI)) (hJ : dItems LJ = some (J.map enI)) (i0 : ∀ i ∈ I, i < t) (j0 : ∀ j ∈ J, j < w) (il : I.length ≤ 1000) (jl : J.length ≤ 1000) :
    mir__law_piece [encTab g, LI, LJ] = .ok (encTab (subT g I J)) none := by
  refine ROk.eq ?_
  unfold mir__law_piece
  refine ROk.mDef (env := [some _, some _, some _, none, none]) rfl rfl ?_
  unfold body__law_piece
  walk_at "s"
  walk_at "s"
  refine Fine.cons (Fine.comp_en I enI (fun i => encRow (J.map fun j => (g.getD i []).getD j 0)) ?_ (by omega) ?_ ?_)
  · walk_at "r"
    exact ⟨_, hI, rfl, rfl⟩
  · intro i hi
    walk_at "s"
    walk_at "s"
    refine Fine.cons (Fine.comp_en J enI (fun j => encQ ((g.getD i []).getD j 0)) ?_ (by omega) ?_ ?_)
    · walk_at "r"
      exact ⟨_, hJ, rfl, rfl⟩
    · intro j hj
      walk_at "r"
      refine ⟨_, dIx_tab (by rw [h.tall]; exact i0 i hi), ?_⟩
      walk_at "r"
      exact ⟨_, dIx_cell h (i0 i hi) (j0 j hj), rfl, rfl⟩
    · walk_at "s"
      walk_at "s"
      refine ⟨?_, rfl⟩
      unfold encRow
      rw [List.map_map]
      rfl
  · walk_at "s"
    walk_at "s"
    unfold FlQ
    refine ⟨?_, rfl⟩
    unfold encTab subT
    rw [List.map_map]
    rfl
/-! what is let -/
theorem isFr_enc (q : Rat) : isFr (encQ q) = true := by
  show (decide (0 < (q.den : Int)) && decide (iGcd q.num (q.den : Int) = 1)) = true
  have h1 := q.den_pos
  have h2 := q.reduced
  rw [decide_eq_true (by omega), Bool.true_and]
  refine decide_eq_true ?_
  unfold iGcd
  rw [Int.natAbs_natCast]
  have h3 : Nat.gcd q.num.natAbs q.den = 1 := h2
  rw [h3]
  rfl
theorem isRw_enc (r : List Rat) : isRw r.length (encRow r) = true := by
  show (decide ((r.map encQ).length = r.length) && (r.map encQ).all isFr) = true
  rw [decide_eq_true (by simp), Bool.true_and, List.all_map]
  exact List.all_eq_true.mpr fun q _ => isFr_enc q
theorem isTb_enc {t w b : Nat} {g : List (List Rat)} (h : Grid t w b g) (t0 : 0 < t) (t1 : t ≤ 6) (w0 : 0 < w) (w1 : w ≤ 6) : isTb (encTab g) = true := by
  cases g with
  | nil => have := h.tall; simp at this; omega
  | cons r g =>
    have hl := h.tall
    have hr := h.wide r List.mem_cons_self
    show (decide ((List.map encRow (r :: g)).length ≤ 6) && (decide (1 ≤ (r.map encQ).length) && (decide ((r.map encQ).length ≤ 6) && (List.map encRow (r :: g)).all (isRw (r.map encQ).length)))) = true
    rw [List.length_map, List.length_map, hl, hr, decide_eq_true t1, decide_eq_true (show 1 ≤ w from w0), decide_eq_true w1, Bool.true_and, Bool.true_and, Bool.true_and, List.all_map]
    refine List.all_eq_true.mpr fun s hs => ?_
    have := isRw_enc s
    rw [h.wide s hs] at this
    exact this
theorem checkTb {d : D} (h : isTb d = true) : mir_check_table [d] = .ok .none none := by
  refine ROk.eq ?_
  unfold mir_check_table
  refine ROk.mDef (env := [some _]) rfl rfl ?_
  unfold body_check_table
  walk_at "r"
  refine ROk.of_eq (isTb_eq d) ?_
  rw [h]
  walk_at "r"
  exact ⟨rfl, rfl, rfl⟩
theorem isLot_eq {n : Nat} {l : List Nat} (h : Lot n l) : mir_is_lot [encNs l, .int (n : Int)] = .ok (.bool true) none := by
  refine ROk.eq ?_
  unfold mir_is_lot
  refine ROk.mDef (env := [some _, some _, none, none]) rfl rfl ?_
  unfold body_is_lot
  walk_at "r"
  refine Fine.each_map enI (fun r e => ∃ (least : Nat) (x : Option D), e = [some (encNs l), some (.int (n : Int)), some (.int (least : Int)), x] ∧ (∀ i ∈ r, least ≤ i ∧ i < n) ∧ r.Pairwise (· < ·)) ?_ ?_ l ?_
  · rintro i r e ⟨least, x, rfl, hi, hp⟩
    have h0 := hi i List.mem_cons_self
    walk_at "r"
    refine ROk.of_eq (isBtw_eq _ _ _) ?_
    have e1 : isBtw (least : Int) ((n : Int) - 1) (enI i) = true := by
      show (decide ((least : Int) ≤ (i : Int)) && decide ((i : Int) ≤ (n : Int) - 1)) = true
      rw [decide_eq_true (by omega), decide_eq_true (by omega)]
      rfl
    rw [e1]
    walk_at "r"
    refine ⟨i + 1, _, rfl, fun j hj => ⟨?_, (hi j (List.mem_cons_of_mem _ hj)).2⟩, (List.pairwise_cons.mp hp).2⟩
    exact (List.pairwise_cons.mp hp).1 j hj
  · rintro e ⟨least, x, rfl, _, _⟩
    refine .inl ⟨rfl, ?_⟩
    walk_at "r"
    exact ⟨rfl, rfl⟩
  · exact ⟨0, none, rfl, fun i hi => ⟨Nat.zero_le _, h.1 i hi⟩, h.2⟩
theorem checkLot {n : Nat} {l : List Nat} (h : Lot n l) : mir_check_lot [encNs l, .int (n : Int)] = .ok .none none := by
  refine ROk.eq ?_
  unfold mir_check_lot
  refine ROk.mDef (env := [some _, some _]) rfl rfl ?_
  unfold body_check_lot
  walk_at "r"
  refine ROk.of_eq (isLot_eq h) ?_
  walk_at "r"
  exact ⟨rfl, rfl, rfl⟩
section
variable {t w b : Nat} {g : List (List Rat)}
theorem checkPart (h : Grid t w b g) (t0 : 0 < t) (t1 : t ≤ 6) (w0 : 0 < w) (w1 : w ≤ 6) {I J : List Nat} (hI : Lot t I) (hJ : Lot w J) : mir_check_part [encTab g, encNs I, encNs J] = .ok .none none := by
  refine ROk.eq ?_
  unfold mir_check_part
  refine ROk.mDef (env := [some _, some _, some _]) rfl rfl ?_
  unfold body_check_part
  walk_at "r"
  refine ROk.of_eq (checkTb (isTb_enc h t0 t1 w0 w1)) ?_
  walk_at "r"
  rw [List.length_map, h.tall]
  refine ROk.of_eq (checkLot hI) ?_
  walk_at "r"
  refine ⟨_, dIx_tab (i := 0) (by rw [h.tall]; exact t0), ?_⟩
  walk_at "r"
  rw [List.length_map, (h.row t0).1]
  refine ROk.of_eq (checkLot hJ) ?_
  exact ⟨rfl, rfl, rfl⟩
theorem lot_len : ∀ {n : Nat} {l : List Nat}, Lot n l → l.length ≤ n := by
  intro n l h
  have key : ∀ (l : List Nat) (a : Nat), (∀ i ∈ l, a ≤ i ∧ i < n) → l.Pairwise (· < ·) → l.length ≤ n - a := by
    intro l
    induction l with
    | nil => intro a _ _; exact Nat.zero_le _
    | cons x l ih =>
      intro a h1 h2
      have hx := h1 x List.mem_cons_self
      have h3 := ih (x + 1) (fun i hi => ⟨(List.pairwise_cons.mp h2).1 i hi, (h1 i (List.mem_cons_of_mem _ hi)).2⟩) (List.pairwise_cons.mp h2).2
      rw [List.length_cons]
      omega
  exact key l 0 (fun i hi => ⟨Nat.zero_le _, h.1 i hi⟩) h.2
theorem part_eq (h : Grid t w b g) (t0 : 0 < t) (t1 : t ≤ 6) (w0 : 0 < w) (w1 : w ≤ 6) {I J : List Nat} (hI : Lot t I) (hJ : Lot w J) : mir_part [encTab g, encNs I, encNs J] = .ok (encTab (subT g I J)) none := by
  have li := lot_len hI
  have lj := lot_len hJ
  refine ROk.eq ?_
  unfold mir_part
  refine ROk.mDef (env := [some _, some _, some _]) rfl rfl ?_
  unfold body_part
  walk_at "r"
  refine ROk.of_eq (checkPart h t0 t1 w0 w1 hI hJ) ?_
  walk_at "r"
  exact ROk.of_eq (numbersAt_eq h rfl rfl hI.1 hJ.1 (by omega) (by omega)) ⟨rfl, rfl⟩
end
theorem zip_self' {α : Type} : ∀ xs : List α, xs.zip xs = xs.map fun x => (x, x)
  | [] => rfl
  | x :: xs => by rw [List.zip_cons_cons, zip_self' xs]; rfl
/-! what is the same -/
/-- plain data, k deep -/
def Pl : Nat → D → Prop
  | _, .int _ => True
  | _, .bool _ => True
  | _, .none => True
  | k + 1, .tuple xs => xs.length ≤ 1000 ∧ ∀ x ∈ xs, Pl k x
  | _, _ => False
theorem same_eq : ∀ (n : Nat) (d : D), Pl n d → mir__law_same (n + 1) [d, d] = .ok (.bool true) none
  | n, .int i, _ => by
    refine ROk.eq ?_
    unfold mir__law_same
    refine ROk.mDef (env := [some _, some _, none, none]) rfl rfl ?_
    unfold body__law_same
    walk_at "r"
    refine ROk.of_eq (lisWh_eq _) ?_
    walk_at "r"
    refine ⟨?_, rfl⟩
    simp [PyData.eqv]
  | n, .bool b, _ => by
    refine ROk.eq ?_
    unfold mir__law_same
    refine ROk.mDef (env := [some _, some _, none, none]) rfl rfl ?_
    unfold body__law_same
    walk_at "r"
    refine ⟨?_, rfl⟩
    simp [PyData.eqv]
  | n, .none, _ => by
    refine ROk.eq ?_
    unfold mir__law_same
    refine ROk.mDef (env := [some _, some _, none, none]) rfl rfl ?_
    unfold body__law_same
    walk_at "r"
    exact ⟨rfl, rfl⟩
  | 0, .tuple xs, h => h.elim
  | n + 1, .tuple xs, h => by
    have h : xs.length ≤ 1000 ∧ ∀ x ∈ xs, Pl n x := h
    have ih := same_eq n
    refine ROk.eq ?_
    unfold mir__law_same
    refine ROk.mDef (env := [some _, some _, none, none]) rfl rfl ?_
    unfold body__law_same
    walk_at "r"
    refine ⟨fun _ => ?_, fun hc => ?_⟩
    · walk_at "s"
      refine Fine.cons (Fine.comp_en xs (fun x => PyData.tuple [x, x]) (fun _ => PyData.bool true) ?_ (by omega) ?_ ?_)
      · refine Fine.zipT ?_
        walk_at "r"
        refine ⟨_, _, rfl, ?_, rfl⟩
        rw [zip_self', List.map_map]
        rfl
      · intro x hx
        walk_at "r"
        exact ROk.of_eq (ih x (h.2 x hx)) ⟨rfl, rfl⟩
      · walk_at "r"
        refine ⟨_, dAll_map (fun _ => true) xs, ?_⟩
        refine ⟨?_, rfl⟩
        simp
    · simp [PyData.eqv] at hc
  | _, .str _, h => by rename_i k _; cases k <;> exact h.elim
  | _, .list _, h => by rename_i k _; cases k <;> exact h.elim
  | _, .dict _, h => by rename_i k _; cases k <;> exact h.elim
theorem same_at {n m : Nat} {d : D} (h : Pl n d) (hm : n < m) : mir__law_same m [d, d] = .ok (.bool true) none := by
  have mono : ∀ (k : Nat) (d : D), Pl k d → ∀ j, k ≤ j → Pl j d := by
    intro k
    induction k with
    | zero =>
      intro d h j hj
      cases d with
      | int _ => cases j <;> exact True.intro
      | bool _ => cases j <;> exact True.intro
      | none => cases j <;> exact True.intro
      | _ => exact h.elim
    | succ k ih =>
      intro d h j hj
      cases d with
      | int _ => cases j <;> exact True.intro
      | bool _ => cases j <;> exact True.intro
      | none => cases j <;> exact True.intro
      | tuple xs =>
        cases j with
        | zero => omega
        | succ j => exact ⟨h.1, fun x hx => ih x (h.2 x hx) j (by omega)⟩
      | _ => exact h.elim
  cases m with
  | zero => omega
  | succ m => exact same_eq m d (mono n d h m (by omega))
theorem pl_q (q : Rat) : Pl 1 (encQ q) := ⟨by show 2 ≤ 1000; decide, fun x hx => by
  simp only [List.mem_cons, List.not_mem_nil, or_false] at hx
  rcases hx with rfl | rfl <;> exact True.intro⟩
theorem pl_row {r : List Rat} (h : r.length ≤ 1000) : Pl 2 (encRow r) := ⟨by rw [List.length_map]; exact h, fun x hx => by
  obtain ⟨q, _, rfl⟩ := List.mem_map.mp hx
  exact pl_q q⟩
theorem pl_tab {g : List (List Rat)} (h : g.length ≤ 1000) (h2 : ∀ r ∈ g, r.length ≤ 1000) : Pl 3 (encTab g) := ⟨by rw [List.length_map]; exact h, fun x hx => by
  obtain ⟨r, hr, rfl⟩ := List.mem_map.mp hx
  exact pl_row (h2 r hr)⟩
end Mir
/-! The well; the end of a law. -/
namespace Mir
open PySem L2 ML
def wellBody (c : Int) : M Fl :=
  (mSeq (mSet 2 (mOp dAdd (ret (.int c)) (mOp dMul (ret (.int 7129)) (mVar 1))))
  (mSeq (mFor (mItems (mSl (mVar 0) (mPart none) (mPart (some (ret (.int 9)))))) (setS 3) (mSet 2 (mOp dMod (mCa (gI1 fun i => i) (mCons (mOp dAdd (mOp dAdd (mOp dMul (mVar 2) (ret (.int 47123))) (mOp dMod (mCa (gI1 fun i => i) (mCons (mVar 3) (ret []))) (ret (.int 2147483587)))) (ret (.int 5))) (ret []))) (ret (.int 2147483563)))))
  (mSeq (mSet 4 (mIf (mB (mOp (dCmp pLt) (mVar 1) (mCa gLen (mCons (mVar 0) (ret []))))) (mCa (gI1 fun i => i) (mCons (mOp dIx (mVar 0) (mVar 1)) (ret []))) (ret (.int 0))))
  (mSeq (mSet 2 (mOp dMod (mCa (gI1 fun i => i) (mCons (mOp dAdd (mOp dAdd (mOp dMul (mVar 2) (ret (.int 43))) (mOp dMul (mOp dMod (mCa (gI1 fun i => i) (mCons (mVar 4) (ret []))) (ret (.int 2147483587))) (ret (.int 20011)))) (ret (.int 7))) (ret []))) (ret (.int 2147483563))))
  (mRet (mLst (mCons (mIf (mOr (mB (mOp (dCmp pLt) (mVar 4) (ret (.int 0)))) (mB (mOp (dCmp pGe) (mVar 4) (mOp dPow (ret (.int 10)) (ret (.int 14)))))) (mCa (gI1 iAbs) (mCons (mVar 4) (ret []))) (ret (.int 0))) (mCons (mVar 2) (mCons (ret (.int 0)) (mCons (ret (.int 1)) (ret [])))))))))))
theorem well_gen {c : Int} (hc0 : 0 ≤ c) (hc1 : c < 2 ^ 31) {ns : List Int} {turn : Nat} (ht : turn ≤ 3) : ROk (mDef 2 5 false true (wellBody c) [.list (ns.map PyData.int), .int (turn : Int)]) fun d o => ∃ w, d = .list w ∧ WellOk 0 w := by
  refine ROk.mDef (env := [some _, some _, none, none, none]) rfl rfl ?_
  unfold wellBody
  have fm : ∀ x y : Int, 0 < y → x.fmod y = x % y := fun x y hy => Int.fmod_eq_emod_of_nonneg _ (by omega)
  walk_at "r"
  refine ⟨_, dMul_int (by decide) (log_s (by decide) (by omega) (by omega)), ?_⟩
  walk_at "r"
  have hcut : cutD (ns.map PyData.int) none (some 9) = ((ns.drop (HT.sIx ns.length 0 none)).take (HT.sIx ns.length ns.length (some 9) - HT.sIx ns.length 0 none)).map PyData.int := by
    unfold cutD
    rw [List.length_map, ← List.map_drop, ← List.map_take]
  rw [hcut]
  refine Fine.each_map PyData.int (fun r e => ∃ (m : Int) (x : Option D), e = [some (.list (ns.map PyData.int)), some (.int (turn : Int)), some (.int m), x, none] ∧ 0 ≤ m ∧ m < 2 ^ 32) ?_ ?_ _ ?_
  · rintro i r e ⟨m, x, rfl, m0, m1⟩
    walk_at "r"
    refine ⟨_, dMul_int (log_s (by decide) (by omega) (by omega)) (by decide), ?_⟩
    walk_at "r"
    refine ⟨_, _, rfl, ?_, ?_⟩
    · try dsimp only
      rw [fm _ 2147483563 (by decide)]
      omega
    · try dsimp only
      rw [fm _ 2147483563 (by decide)]
      omega
  · rintro e ⟨m, x, rfl, m0, m1⟩
    refine .inl ⟨rfl, ?_⟩
    have fin : ∀ own : Int, Fine ((mSeq (mSet 2 (mOp dMod (mCa (gI1 fun i => i) (mCons (mOp dAdd (mOp dAdd (mOp dMul (mVar 2) (ret (.int 43))) (mOp dMul (mOp dMod (mCa (gI1 fun i => i) (mCons (mVar 4) (ret []))) (ret (.int 2147483587))) (ret (.int 20011)))) (ret (.int 7))) (ret []))) (ret (.int 2147483563))))
      (mRet (mLst (mCons (mIf (mOr (mB (mOp (dCmp pLt) (mVar 4) (ret (.int 0)))) (mB (mOp (dCmp pGe) (mVar 4) (mOp dPow (ret (.int 10)) (ret (.int 14)))))) (mCa (gI1 iAbs) (mCons (mVar 4) (ret []))) (ret (.int 0))) (mCons (mVar 2) (mCons (ret (.int 0)) (mCons (ret (.int 1)) (ret []))))))))
      [some (.list (ns.map PyData.int)), some (.int (turn : Int)), some (.int m), x, some (.int own)]) (FlQ false true fun d o => ∃ w, d = .list w ∧ WellOk 0 w) := by
      intro own
      walk_at "r"
      refine ⟨_, dMul_int (log_s (by decide) (by omega) (by omega)) (by decide), ?_⟩
      walk_at "r"
      have o0 : 0 ≤ own.fmod 2147483587 := by rw [fm _ _ (by decide)]; omega
      have o1 : own.fmod 2147483587 < 2147483587 := by rw [fm _ _ (by decide)]; omega
      try dsimp only
      generalize own.fmod 2147483587 = z at o0 o1 ⊢
      refine ⟨_, dMul_int (log_s (by decide) (by omega) (by omega)) (by decide), ?_⟩
      walk_at "r"
      try dsimp only
      generalize hy : (m * 43 + z * 20011 + 7).fmod 2147483563 = y
      have y0 : 0 ≤ y := by rw [← hy, fm _ _ (by decide)]; omega
      have y1 : y < 2147483563 := by rw [← hy, fm _ _ (by decide)]; omega
      have end_ : ∀ a : Int, WellOk 0 [.int a, .int y, .int 0, .int 1] := fun a => ⟨a, y, 0, 1, rfl, y0, y1, by decide, by decide⟩
      refine ⟨fun _ => ?_, fun _ => ?_⟩
      · walk_at "r"
        exact ⟨_, rfl, end_ _⟩
      · walk_at "r"
        refine ⟨fun _ => ?_, fun _ => ?_⟩
        · walk_at "r"
          exact ⟨_, rfl, end_ _⟩
        · walk_at "r"
          exact ⟨_, rfl, end_ _⟩
    walk_at "r"
    refine ⟨fun hc => ?_, fun hc => ?_⟩
    · have hc : (turn : Int) < ((ns.map PyData.int).length : Int) := of_decide_eq_true hc
      rw [List.length_map] at hc
      walk_at "r"
      have hl : turn < ns.length := by omega
      refine ⟨.int ns[turn], ?_, ?_⟩
      · show atI (ns.map PyData.int) (turn : Int) = _
        rw [atI_of (by rw [List.length_map]; exact hl), List.getElem_map]
      · walk_at "s"
        walk_at "s"
        walk_at "s"
        walk_at "s"
        exact fin _
    · walk_at "s"
      walk_at "s"
      walk_at "s"
      exact fin _
  · exact ⟨c + 7129 * (turn : Int), none, rfl, by omega, by omega⟩
/-- law(script): every right of its turns -/
def lawBody (mr mw : List D → Rs) : M Fl :=
  (mRet (mCa dAll (mCons (mComp [1] (mRange1 (mCons (mCa (gI2 iMax) (mCons (ret (.int 2)) (mCons (mCa (gI2 iMin) (mCons (mCa gLen (mCons (mVar 0) (ret []))) (mCons (ret (.int 3)) (ret [])))) (ret [])))) (ret []))) (setS 1) mYes (mCallT mr (mCall mw (mCons (mVar 0) (mCons (mVar 1) (ret [])))))) (ret []))))
end Mir
/-! The laws' numbers, their denominators told apart. -/
namespace Mir
open PySem L2 ML
/-- a small number, its denominator smaller still -/
structure Qs (a b : Nat) (q : Rat) : Prop where
  num : q.num.natAbs < 2 ^ a
  den : q.den < 2 ^ b
theorem Qs.mono {a b c d : Nat} {q : Rat} (h : Qs a b q) (h1 : a ≤ c) (h2 : b ≤ d) : Qs c d q :=
  ⟨Nat.lt_of_lt_of_le h.num (Nat.pow_le_pow_right (by decide) h1), Nat.lt_of_lt_of_le h.den (Nat.pow_le_pow_right (by decide) h2)⟩
theorem qs_divInt {a b : Int} {k l : Nat} (h0 : b ≠ 0) (ha : a.natAbs < 2 ^ k) (hb : b.natAbs < 2 ^ l) : Qs k l (Rat.divInt a b) := by
  refine ⟨?_, ?_⟩
  · rw [Rat.num_divInt]
    refine Nat.lt_of_le_of_lt ?_ ha
    rw [Int.natAbs_ediv_of_dvd, Int.natAbs_mul, Int.natAbs_sign_of_ne_zero h0, Nat.one_mul]
    · exact Nat.div_le_self _ _
    · exact Int.dvd_trans (Int.gcd_dvd_right ..) (Int.dvd_mul_left _ _)
  · rw [Rat.den_divInt, if_neg h0]
    exact Nat.lt_of_le_of_lt (Nat.div_le_self _ _) hb
structure GridS (t w : Nat) (g : List (List Rat)) : Prop where
  tall : g.length = t
  wide : ∀ r ∈ g, r.length = w
  qs : ∀ r ∈ g, ∀ q ∈ r, Qs 21 7 q
end Mir
/-! Dot products where numerators and denominators are bounded apart. -/
namespace Mir
open PySem L2 ML
end Mir
/-! Numbers over a common denominator. -/
namespace Mir
open PySem L2 ML
/-- t / C, t no greater than T -/
def Over (C T : Nat) (q : Rat) : Prop := ∃ t : Int, q = (t : Rat) / (C : Rat) ∧ t.natAbs ≤ T
theorem nat_ne {C : Nat} (h : 0 < C) : (C : Rat) ≠ 0 := by
  intro z
  have := Rat.intCast_inj.mp (show ((C : Int) : Rat) = ((0 : Int) : Rat) by rw [Rat.intCast_natCast]; exact z)
  omega
theorem Over.qs {C T a b : Nat} {q : Rat} (h : Over C T q) (h0 : 0 < C) (h1 : T < 2 ^ a) (h2 : C < 2 ^ b) : Qs a b q := by
  obtain ⟨t, e, ht⟩ := h
  have : q = Rat.divInt t (C : Int) := by rw [Rat.divInt_eq_div, Rat.intCast_natCast]; exact e
  rw [this]
  exact qs_divInt (by omega) (by omega) (by omega)
theorem Over.le {C T T' : Nat} {q : Rat} (h : Over C T q) (hl : T ≤ T') : Over C T' q := by
  obtain ⟨t, e, ht⟩ := h
  exact ⟨t, e, Nat.le_trans ht hl⟩
theorem Over.scale {C T k : Nat} {q : Rat} (h : Over C T q) (h0 : 0 < C) (hk : 0 < k) : Over (C * k) (T * k) q := by
  obtain ⟨t, e, ht⟩ := h
  refine ⟨t * (k : Int), ?_, ?_⟩
  · have c0 := nat_ne h0
    have k0 := nat_ne hk
    rw [e, Rat.intCast_mul, Rat.natCast_mul, Rat.intCast_natCast]
    grind
  · rw [Int.natAbs_mul, Int.natAbs_natCast]
    exact Nat.mul_le_mul_right _ ht
theorem Over.of {q : Rat} {D a : Nat} (hd : q.den ∣ D) (h0 : 0 < D) (hn : q.num.natAbs ≤ a) : Over D (a * D) q := by
  obtain ⟨c, hc⟩ := hd
  have hcp : 0 < c := by
    rcases Nat.eq_zero_or_pos c with z | z
    · rw [z] at hc; omega
    · exact z
  refine ⟨q.num * (c : Int), ?_, ?_⟩
  · have e := rat_nd q
    have d0 := den_ne q
    have c0 := nat_ne hcp
    rw [hc, Rat.intCast_mul, Rat.natCast_mul, Rat.intCast_natCast]
    generalize (q.num : Rat) = n at *
    generalize (q.den : Rat) = d at *
    rw [← e]
    grind
  · rw [Int.natAbs_mul, Int.natAbs_natCast, hc]
    refine Nat.mul_le_mul hn ?_
    exact Nat.le_mul_of_pos_left _ q.den_pos
theorem Over.zero (C : Nat) : Over C 0 0 := ⟨0, by simp; grind, by decide⟩
theorem Over.add {C S T : Nat} {p q : Rat} (hp : Over C S p) (hq : Over C T q) : Over C (S + T) (p + q) := by
  obtain ⟨s, e1, h1⟩ := hp
  obtain ⟨t, e2, h2⟩ := hq
  refine ⟨s + t, ?_, Nat.le_trans (Int.natAbs_add_le _ _) (Nat.add_le_add h1 h2)⟩
  rw [e1, e2, Rat.intCast_add]
  grind
theorem Over.mul {C D S T : Nat} {p q : Rat} (hp : Over D S p) (hq : Over C T q) (hD : 0 < D) (hC : 0 < C) : Over (D * C) (S * T) (p * q) := by
  obtain ⟨s, e1, h1⟩ := hp
  obtain ⟨t, e2, h2⟩ := hq
  have d0 := nat_ne hD
  have c0 := nat_ne hC
  refine ⟨s * t, ?_, ?_⟩
  · rw [e1, e2, Rat.intCast_mul, Rat.natCast_mul]
    grind
  · rw [Int.natAbs_mul]
    exact Nat.mul_le_mul h1 h2
theorem qdot_over {C D S T : Nat} (hD : 0 < D) (hC : 0 < C) : ∀ (r s : List Rat), (∀ q ∈ r, Over D S q) → (∀ q ∈ s, Over C T q) → Over (D * C) (r.length * (S * T)) (qdot r s)
  | [], s, _, _ => by
    cases s <;> exact (Over.zero _).le (Nat.zero_le _)
  | a :: r, [], _, _ => (Over.zero _).le (Nat.zero_le _)
  | a :: r, b :: s, h1, h2 => by
    have ih := qdot_over hD hC r s (fun q hq => h1 q (List.mem_cons_of_mem _ hq)) (fun q hq => h2 q (List.mem_cons_of_mem _ hq))
    have m := Over.mul (h1 a List.mem_cons_self) (h2 b List.mem_cons_self) hD hC
    have e : (a :: r).length * (S * T) = S * T + r.length * (S * T) := by rw [List.length_cons, Nat.add_mul, Nat.one_mul, Nat.add_comm]
    rw [e]
    exact m.add ih
/-- the product of the denominators -/
def dens : List Rat → Nat
  | [] => 1
  | q :: r => q.den * dens r
theorem dens_pos : ∀ r : List Rat, 0 < dens r
  | [] => by decide
  | q :: r => Nat.mul_pos q.den_pos (dens_pos r)
theorem den_dvd : ∀ {r : List Rat} {q : Rat}, q ∈ r → q.den ∣ dens r
  | p :: r, q, h => by
    cases h with
    | head => exact Nat.dvd_mul_right _ _
    | tail _ h => exact Nat.dvd_trans (den_dvd h) (Nat.dvd_mul_left _ _)
theorem dens_le {b : Nat} : ∀ {r : List Rat}, (∀ q ∈ r, q.den ≤ 2 ^ b) → dens r ≤ 2 ^ (b * r.length)
  | [], _ => by rw [List.length_nil, Nat.mul_zero]; decide
  | q :: r, h => by
    have h1 := h q List.mem_cons_self
    have h2 := dens_le (r := r) fun p hp => h p (List.mem_cons_of_mem _ hp)
    have e : b * (q :: r).length = b + b * r.length := by rw [List.length_cons, Nat.mul_add, Nat.mul_one, Nat.add_comm]
    rw [e, Nat.pow_add]
    exact Nat.mul_le_mul h1 h2
/-- many small numbers over one denominator -/
theorem over_all {r : List Rat} (h : ∀ q ∈ r, Qs 21 7 q) : 0 < dens r ∧ dens r ≤ 2 ^ (7 * r.length) ∧ ∀ q ∈ r, Over (dens r) (2 ^ 21 * dens r) q :=
  ⟨dens_pos r, dens_le fun q hq => Nat.le_of_lt (h q hq).den, fun q hq => Over.of (den_dvd hq) (dens_pos r) (Nat.le_of_lt (h q hq).num)⟩
end Mir
/-! A line through a table, the law's and the program's; sums and products of two numbers. -/
namespace Mir
open PySem L2 ML
end Mir
/-! Sums and products of two numbers. -/
namespace Mir
open PySem L2 ML
end Mir
/-! Finite sums, tables of numbers, ranks by products. -/
namespace LA
/-- the sum of the first n -/
def sm : Nat → (Nat → Rat) → Rat
  | 0, _ => 0
  | n + 1, f => sm n f + f n
theorem sm_congr {f g : Nat → Rat} : ∀ {n : Nat}, (∀ i, i < n → f i = g i) → sm n f = sm n g
  | 0, _ => rfl
  | n + 1, h => by
    show sm n f + f n = sm n g + g n
    rw [sm_congr fun i hi => h i (by omega), h n (by omega)]
theorem sm_add {f g : Nat → Rat} : ∀ (n : Nat), sm n (fun i => f i + g i) = sm n f + sm n g
  | 0 => by show (0 : Rat) = 0 + 0; grind
  | n + 1 => by
    show sm n (fun i => f i + g i) + (f n + g n) = (sm n f + f n) + (sm n g + g n)
    rw [sm_add n]; grind
theorem sm_sub {f g : Nat → Rat} : ∀ (n : Nat), sm n (fun i => f i - g i) = sm n f - sm n g
  | 0 => by show (0 : Rat) = 0 - 0; grind
  | n + 1 => by
    show sm n (fun i => f i - g i) + (f n - g n) = (sm n f + f n) - (sm n g + g n)
    rw [sm_sub n]; grind
theorem sm_mul {f : Nat → Rat} (c : Rat) : ∀ (n : Nat), sm n (fun i => c * f i) = c * sm n f
  | 0 => by show (0 : Rat) = c * 0; grind
  | n + 1 => by
    show sm n (fun i => c * f i) + c * f n = c * (sm n f + f n)
    rw [sm_mul c n]; grind
theorem sm_mulr {f : Nat → Rat} (c : Rat) (n : Nat) : sm n (fun i => f i * c) = sm n f * c := by
  rw [Rat.mul_comm, ← sm_mul]; exact sm_congr fun i _ => Rat.mul_comm _ _
theorem sm_zero {f : Nat → Rat} {n : Nat} (h : ∀ i, i < n → f i = 0) : sm n f = 0 := by
  induction n with
  | zero => rfl
  | succ n ih =>
    show sm n f + f n = 0
    rw [ih fun i hi => h i (by omega), h n (by omega)]; grind
theorem sm_swap {f : Nat → Nat → Rat} (n : Nat) : ∀ (m : Nat), sm m (fun i => sm n fun j => f i j) = sm n fun j => sm m fun i => f i j
  | 0 => (sm_zero fun _ _ => rfl).symm
  | m + 1 => by
    show sm m (fun i => sm n fun j => f i j) + sm n (fun j => f m j) = sm n fun j => sm m (fun i => f i j) + f m j
    rw [sm_swap n m, sm_add]
theorem sm_one {f : Nat → Rat} {k : Nat} : ∀ {n : Nat}, k < n → (∀ i, i < n → i ≠ k → f i = 0) → sm n f = f k
  | n + 1, hk, h => by
    show sm n f + f n = f k
    by_cases e : k = n
    · subst e
      rw [sm_zero fun i hi => h i (by omega) (by omega)]; grind
    · rw [sm_one (n := n) (by omega) fun i hi => h i (by omega), h n (by omega) (by omega)]; grind
theorem sm_front {f : Nat → Rat} : ∀ (n : Nat), sm (n + 1) f = f 0 + sm n (fun i => f (i + 1))
  | 0 => by show (0 : Rat) + f 0 = f 0 + 0; grind
  | n + 1 => by
    show sm (n + 1) f + f (n + 1) = f 0 + (sm n (fun i => f (i + 1)) + f (n + 1))
    rw [sm_front n]; grind
theorem sm_app {f : Nat → Rat} (a : Nat) : ∀ (b : Nat), sm (a + b) f = sm a f + sm b (fun i => f (a + i))
  | 0 => by show sm a f = sm a f + 0; grind
  | b + 1 => by
    show sm (a + b) f + f (a + b) = sm a f + (sm b (fun i => f (a + i)) + f (a + b))
    rw [sm_app a b]; grind
theorem sm_neg {f : Nat → Rat} (n : Nat) : sm n (fun i => - f i) = - sm n f := by
  have := sm_mul (f := f) (-1) n
  rw [show - sm n f = -1 * sm n f by grind, ← this]
  exact sm_congr fun i _ => by grind
/-- more terms of 0 -/
theorem sm_more {f : Nat → Rat} {a n : Nat} (h : a ≤ n) (z : ∀ i, a ≤ i → i < n → f i = 0) : sm n f = sm a f := by
  obtain ⟨b, rfl⟩ := Nat.exists_eq_add_of_le h
  rw [sm_app, sm_zero (n := b) fun i hi => z (a + i) (by omega) (by omega)]; grind
abbrev Mx := Nat → Nat → Rat
def dl (i j : Nat) : Rat := if i = j then 1 else 0
theorem dl_self (i : Nat) : dl i i = 1 := if_pos rfl
theorem dl_ne {i j : Nat} (h : i ≠ j) : dl i j = 0 := if_neg h
theorem dl_comm (i j : Nat) : dl i j = dl j i := by unfold dl; by_cases h : i = j <;> simp [h, eq_comm]
def mul (k : Nat) (A B : Mx) : Mx := fun i j => sm k fun t => A i t * B t j
def tr (A : Mx) : Mx := fun i j => A j i
theorem sm_dl_l {f : Nat → Rat} {i n : Nat} (h : i < n) : sm n (fun t => dl i t * f t) = f i := by
  rw [sm_one h fun j _ hj => by rw [dl_ne (Ne.symm hj)]; grind, dl_self]; grind
theorem sm_dl_r {f : Nat → Rat} {j n : Nat} (h : j < n) : sm n (fun t => f t * dl t j) = f j := by
  rw [sm_one h fun i _ hi => by rw [dl_ne hi]; grind, dl_self]; grind
theorem mul_assoc (k l : Nat) (A B C : Mx) : mul l (mul k A B) C = mul k A (mul l B C) := by
  funext i j
  show sm l (fun t => sm k (fun s => A i s * B s t) * C t j) = sm k fun s => A i s * sm l fun t => B s t * C t j
  have e1 : ∀ t, sm k (fun s => A i s * B s t) * C t j = sm k fun s => A i s * B s t * C t j := fun t => (sm_mulr _ _).symm
  have e2 : ∀ s, A i s * sm l (fun t => B s t * C t j) = sm l fun t => A i s * B s t * C t j := fun s => by
    rw [← sm_mul]; exact sm_congr fun t _ => by grind
  rw [sm_congr fun t _ => e1 t, sm_congr fun s _ => e2 s, sm_swap]
/-- equal as far as they reach -/
def Eqm (m n : Nat) (A B : Mx) : Prop := ∀ i, i < m → ∀ j, j < n → A i j = B i j
theorem Eqm.refl {m n : Nat} {A : Mx} : Eqm m n A A := fun _ _ _ _ => rfl
theorem Eqm.symm {m n : Nat} {A B : Mx} (h : Eqm m n A B) : Eqm m n B A := fun i hi j hj => (h i hi j hj).symm
theorem Eqm.trans {m n : Nat} {A B C : Mx} (h : Eqm m n A B) (g : Eqm m n B C) : Eqm m n A C := fun i hi j hj => (h i hi j hj).trans (g i hi j hj)
theorem Eqm.mul {m n k : Nat} {A A' B B' : Mx} (h : Eqm m k A A') (g : Eqm k n B B') : Eqm m n (LA.mul k A B) (LA.mul k A' B') := fun i hi j hj => sm_congr fun t ht => by rw [h i hi t ht, g t ht j hj]
theorem mul_dl {m n : Nat} (A : Mx) : Eqm m n (mul n A dl) A := fun i _ j hj => sm_dl_r (f := fun t => A i t) hj
theorem dl_mul {m n : Nat} (A : Mx) : Eqm m n (mul m dl A) A := fun i hi j _ => sm_dl_l (f := fun t => A t j) hi
theorem tr_mul (k : Nat) (A B : Mx) : tr (mul k A B) = mul k (tr B) (tr A) := by
  funext i j
  exact sm_congr fun t _ => Rat.mul_comm _ _
theorem mul_add (k : Nat) (A B C : Mx) : mul k A (fun i j => B i j + C i j) = fun i j => mul k A B i j + mul k A C i j := by
  funext i j
  show sm k (fun t => A i t * (B t j + C t j)) = sm k (fun t => A i t * B t j) + sm k (fun t => A i t * C t j)
  rw [← sm_add]; exact sm_congr fun t _ => by grind
theorem add_mul (k : Nat) (A B C : Mx) : mul k (fun i j => A i j + B i j) C = fun i j => mul k A C i j + mul k B C i j := by
  funext i j
  show sm k (fun t => (A i t + B i t) * C t j) = sm k (fun t => A i t * C t j) + sm k (fun t => B i t * C t j)
  rw [← sm_add]; exact sm_congr fun t _ => by grind
/-! ranks -/
def Le (m n k : Nat) (A : Mx) : Prop := ∃ X Y, Eqm m n A (mul k X Y)
def Ge (m n r : Nat) (A : Mx) : Prop := ∃ U V, Eqm r r (mul m U (mul n A V)) dl
def skip (j k : Nat) : Nat := if k < j then k else k + 1
theorem skip_ne (j k : Nat) : skip j k ≠ j := by unfold skip; split <;> omega
theorem skip_lt {j k n : Nat} (h : k < n) : skip j k < n + 1 := by unfold skip; split <;> omega
theorem skip_inj {j a b : Nat} (h : skip j a = skip j b) : a = b := by unfold skip at h; split at h <;> split at h <;> omega
theorem dl_skip (j a b : Nat) : dl (skip j a) (skip j b) = dl a b := by
  by_cases h : a = b
  · rw [h, dl_self, dl_self]
  · rw [dl_ne h, dl_ne fun e => h (skip_inj e)]
/-- 1 is no product through fewer -/
theorem dim : ∀ (k r : Nat) (X Y : Mx), Eqm r r dl (mul k X Y) → r ≤ k
  | 0, r, X, Y, h => by
    cases r with
    | zero => exact Nat.le_refl _
    | succ r =>
      have := h 0 (by omega) 0 (by omega)
      rw [dl_self] at this
      exact absurd this (show (1 : Rat) ≠ 0 by decide)
  | k + 1, r, X, Y, h => by
    cases r with
    | zero => omega
    | succ r =>
      by_cases hz : ∃ j, j < r + 1 ∧ Y k j ≠ 0
      · obtain ⟨j0, hj, hy⟩ := hz
        have := dim k r (fun i t => X (skip j0 i) t) (fun t j => Y t (skip j0 j) - Y k (skip j0 j) / Y k j0 * Y t j0) fun i hi j hj' => by
          have h1 := h (skip j0 i) (skip_lt hi) (skip j0 j) (skip_lt hj')
          have h2 := h (skip j0 i) (skip_lt hi) j0 hj
          rw [dl_skip] at h1
          rw [dl_ne (skip_ne j0 i)] at h2
          show dl i j = sm k fun t => X (skip j0 i) t * (Y t (skip j0 j) - Y k (skip j0 j) / Y k j0 * Y t j0)
          have e : sm k (fun t => X (skip j0 i) t * (Y t (skip j0 j) - Y k (skip j0 j) / Y k j0 * Y t j0)) = sm k (fun t => X (skip j0 i) t * Y t (skip j0 j)) - Y k (skip j0 j) / Y k j0 * sm k (fun t => X (skip j0 i) t * Y t j0) := by
            rw [← sm_mul, ← sm_sub]; exact sm_congr fun t _ => by grind
          rw [e]
          have h1 : dl i j = sm k (fun t => X (skip j0 i) t * Y t (skip j0 j)) + X (skip j0 i) k * Y k (skip j0 j) := h1
          have h2 : 0 = sm k (fun t => X (skip j0 i) t * Y t j0) + X (skip j0 i) k * Y k j0 := h2
          generalize sm k (fun t => X (skip j0 i) t * Y t (skip j0 j)) = s1 at *
          generalize sm k (fun t => X (skip j0 i) t * Y t j0) = s2 at *
          grind
        omega
      · have := dim k (r + 1) X Y fun i hi j hj => by
          have h1 : dl i j = sm k (fun t => X i t * Y t j) + X i k * Y k j := h i hi j hj
          have h2 : Y k j = 0 := Classical.byContradiction fun z => hz ⟨j, hj, z⟩
          rw [h1, h2]
          show _ = sm k (fun t => X i t * Y t j)
          grind
        omega
theorem ge_le {m n r k : Nat} {A : Mx} (h : Ge m n r A) (g : Le m n k A) : r ≤ k := by
  obtain ⟨U, V, h⟩ := h
  obtain ⟨X, Y, g⟩ := g
  refine dim k r (mul m U X) (mul n Y V) (h.symm.trans ?_)
  have e : Eqm r r (mul m U (mul n A V)) (mul m U (mul n (mul k X Y) V)) := Eqm.mul Eqm.refl (Eqm.mul g Eqm.refl)
  rw [mul_assoc k n, ← mul_assoc m k] at e
  exact e
theorem Le.congr {m n k : Nat} {A B : Mx} (h : Le m n k A) (e : Eqm m n A B) : Le m n k B := let ⟨X, Y, h⟩ := h; ⟨X, Y, e.symm.trans h⟩
theorem Ge.congr {m n k : Nat} {A B : Mx} (h : Ge m n k A) (e : Eqm m n A B) : Ge m n k B := let ⟨U, V, h⟩ := h; ⟨U, V, (Eqm.mul Eqm.refl (Eqm.mul e.symm Eqm.refl)).trans h⟩
theorem Le.rows (m n : Nat) (A : Mx) : Le m n m A := ⟨dl, A, (dl_mul A).symm⟩
theorem Le.cols (m n : Nat) (A : Mx) : Le m n n A := ⟨A, dl, (mul_dl A).symm⟩
theorem Le.mono {m n k l : Nat} {A : Mx} (h : Le m n k A) (hl : k ≤ l) : Le m n l A := by
  obtain ⟨X, Y, h⟩ := h
  refine ⟨fun i t => if t < k then X i t else 0, Y, fun i hi j hj => ?_⟩
  rw [h i hi j hj]
  show sm k (fun t => X i t * Y t j) = sm l fun t => (if t < k then X i t else 0) * Y t j
  rw [sm_more hl fun t h1 _ => by rw [if_neg (by omega)]; grind]
  exact sm_congr fun t ht => by rw [if_pos ht]
theorem Ge.mono {m n k l : Nat} {A : Mx} (h : Ge m n k A) (hl : l ≤ k) : Ge m n l A := let ⟨U, V, h⟩ := h; ⟨U, V, fun i hi j hj => h i (by omega) j (by omega)⟩
theorem Le.lmul {m n p k : Nat} {A : Mx} (T : Mx) (h : Le m n k A) : Le p n k (LA.mul m T A) := by
  obtain ⟨X, Y, h⟩ := h
  refine ⟨LA.mul m T X, Y, ?_⟩
  rw [mul_assoc]
  exact Eqm.mul Eqm.refl h
theorem Le.rmul {m n p k : Nat} {A : Mx} (T : Mx) (h : Le m n k A) : Le m p k (LA.mul n A T) := by
  obtain ⟨X, Y, h⟩ := h
  refine ⟨X, LA.mul n Y T, ?_⟩
  rw [← mul_assoc]
  exact Eqm.mul h Eqm.refl
theorem Ge.lmul {m n p k : Nat} {A T : Mx} (h : Ge p n k (LA.mul m T A)) : Ge m n k A := by
  obtain ⟨U, V, h⟩ := h
  refine ⟨LA.mul p U T, V, ?_⟩
  rw [mul_assoc p m]
  rw [mul_assoc m n] at h
  exact h
theorem Ge.rmul {m n p k : Nat} {A T : Mx} (h : Ge m p k (LA.mul n A T)) : Ge m n k A := by
  obtain ⟨U, V, h⟩ := h
  refine ⟨U, LA.mul p T V, ?_⟩
  rw [← mul_assoc n p]
  exact h
theorem Le.tr {m n k : Nat} {A : Mx} (h : Le m n k A) : Le n m k (tr A) := by
  obtain ⟨X, Y, h⟩ := h
  refine ⟨LA.tr Y, LA.tr X, ?_⟩
  rw [← tr_mul]
  exact fun i hi j hj => h j hj i hi
theorem Ge.tr {m n k : Nat} {A : Mx} (h : Ge m n k A) : Ge n m k (tr A) := by
  obtain ⟨U, V, h⟩ := h
  refine ⟨LA.tr V, LA.tr U, fun i hi j hj => ?_⟩
  have := h j hj i hi
  rw [dl_comm, ← this]
  have e : LA.mul n (LA.tr V) (LA.mul m (LA.tr A) (LA.tr U)) = LA.tr (LA.mul m U (LA.mul n A V)) := by
    rw [tr_mul, tr_mul, mul_assoc]
  rw [e]
  rfl
theorem Le.add {m n k l : Nat} {A B : Mx} (h : Le m n k A) (g : Le m n l B) : Le m n (k + l) (fun i j => A i j + B i j) := by
  obtain ⟨X, Y, h⟩ := h
  obtain ⟨Z, W, g⟩ := g
  refine ⟨fun i t => if t < k then X i t else Z i (t - k), fun t j => if t < k then Y t j else W (t - k) j, fun i hi j hj => ?_⟩
  show A i j + B i j = sm (k + l) _
  rw [sm_app, h i hi j hj, g i hi j hj]
  congr 1
  · exact sm_congr fun t ht => by dsimp only; rw [if_pos ht, if_pos ht]
  · exact sm_congr fun t ht => by dsimp only; rw [if_neg (by omega), if_neg (by omega), Nat.add_sub_cancel_left]
/-- the part of a table -/
theorem Le.part {m n p q k : Nat} {A : Mx} (h : Le m n k A) (f g : Nat → Nat) (hf : ∀ i, i < p → f i < m) (hg : ∀ j, j < q → g j < n) : Le p q k (fun i j => A (f i) (g j)) := by
  obtain ⟨X, Y, h⟩ := h
  exact ⟨fun i t => X (f i) t, fun t j => Y t (g j), fun i hi j hj => h (f i) (hf i hi) (g j) (hg j hj)⟩
theorem part_eq {m n p q : Nat} {A : Mx} {f g : Nat → Nat} (hf : ∀ i, i < p → f i < m) (hg : ∀ j, j < q → g j < n) : Eqm p q (mul m (fun i t => dl (f i) t) (mul n A fun t j => dl t (g j))) (fun i j => A (f i) (g j)) := fun i hi j hj => by
  show sm m (fun a => dl (f i) a * sm n (fun b => A a b * dl b (g j))) = _
  rw [sm_dl_l (f := fun a => sm n (fun b => A a b * dl b (g j))) (hf i hi), sm_dl_r (f := fun b => A (f i) b) (hg j hj)]
theorem Ge.part {m n p q k : Nat} {A : Mx} {f g : Nat → Nat} (hf : ∀ i, i < p → f i < m) (hg : ∀ j, j < q → g j < n) (h : Ge p q k (fun i j => A (f i) (g j))) : Ge m n k A :=
  (h.congr (part_eq hf hg).symm).lmul.rmul
/-- a rank -/
structure Rk (m n r : Nat) (A : Mx) : Prop where
  le : Le m n r A
  ge : Ge m n r A
theorem Rk.uniq {m n r s : Nat} {A : Mx} (h : Rk m n r A) (g : Rk m n s A) : r = s := Nat.le_antisymm (ge_le h.ge g.le) (ge_le g.ge h.le)
theorem Rk.congr {m n r : Nat} {A B : Mx} (h : Rk m n r A) (e : Eqm m n A B) : Rk m n r B := ⟨h.le.congr e, h.ge.congr e⟩
theorem Rk.tr {m n r : Nat} {A : Mx} (h : Rk m n r A) : Rk n m r (LA.tr A) := ⟨h.le.tr, h.ge.tr⟩
theorem Rk.le_rows {m n r : Nat} {A : Mx} (h : Rk m n r A) : r ≤ m := ge_le h.ge (Le.rows m n A)
theorem Rk.le_cols {m n r : Nat} {A : Mx} (h : Rk m n r A) : r ≤ n := ge_le h.ge (Le.cols m n A)
end LA
/-! Every table has a rank; one-sided inverses are inverses. -/
namespace LA
/-- a table as a product of one with free columns and one with free rows -/
structure Pair (m n r : Nat) (A X Y U V : Mx) : Prop where
  eq : Eqm m n A (mul r X Y)
  ux : Eqm r r (mul m U X) dl
  yv : Eqm r r (mul n Y V) dl
theorem Pair.rk {m n r : Nat} {A X Y U V : Mx} (h : Pair m n r A X Y U V) : Rk m n r A := by
  refine ⟨⟨X, Y, h.eq⟩, U, V, ?_⟩
  have e : Eqm r r (mul m U (mul n A V)) (mul m U (mul n (mul r X Y) V)) := Eqm.mul Eqm.refl (Eqm.mul h.eq Eqm.refl)
  rw [mul_assoc r n, ← mul_assoc m r] at e
  exact e.trans ((Eqm.mul h.ux h.yv).trans (mul_dl dl))
theorem pair_ex (n : Nat) (A : Mx) : ∀ m : Nat, ∃ r X Y U V, Pair m n r A X Y U V
  | 0 => ⟨0, A, A, A, A, fun _ h => absurd h (by omega), fun _ h => absurd h (by omega), fun _ h => absurd h (by omega)⟩
  | m + 1 => by
    obtain ⟨r, X, Y, U, V, h⟩ := pair_ex n A m
    -- the last row, less its multiples
    let c : Nat → Rat := fun t => sm n fun j => A m j * V j t
    let b : Nat → Rat := fun j => A m j - sm r fun t => c t * Y t j
    have hbV : ∀ t, t < r → sm n (fun j => b j * V j t) = 0 := fun t ht => by
      have e1 : sm n (fun j => b j * V j t) = c t - sm n (fun j => sm r (fun s => c s * Y s j) * V j t) := by
        show _ = sm n (fun j => A m j * V j t) - _
        rw [← sm_sub]; exact sm_congr fun j _ => by show (A m j - sm r fun t => c t * Y t j) * V j t = _; grind
      have e2 : sm n (fun j => sm r (fun s => c s * Y s j) * V j t) = c t := by
        have e3 : sm n (fun j => sm r (fun s => c s * Y s j) * V j t) = sm r fun s => c s * mul n Y V s t := by
          have := congrFun (congrFun (mul_assoc r n (fun _ s => c s) Y V) 0) t
          exact this
        rw [e3, sm_congr fun s hs => by rw [h.yv s hs t ht], sm_dl_r (f := c) ht]
      rw [e1, e2]; grind
    by_cases hz : ∃ j, j < n ∧ b j ≠ 0
    · obtain ⟨j0, hj, hb⟩ := hz
      let v : Nat → Rat := fun j => (dl j j0 - sm r fun t => V j t * Y t j0) / b j0
      have hYv : ∀ t, t < r → sm n (fun j => Y t j * v j) = 0 := fun t ht => by
        have e1 : sm n (fun j => Y t j * v j) = (sm n (fun j => Y t j * dl j j0) - sm n (fun j => Y t j * sm r fun s => V j s * Y s j0)) / b j0 := by
          rw [← sm_sub, Rat.div_def, ← sm_mulr]
          exact sm_congr fun j _ => by show Y t j * ((dl j j0 - sm r fun t => V j t * Y t j0) / b j0) = _; rw [Rat.div_def]; grind
        have e2 : sm n (fun j => Y t j * sm r fun s => V j s * Y s j0) = Y t j0 := by
          have := congrFun (congrFun (mul_assoc n r Y V Y) t) j0
          have e3 : sm n (fun j => Y t j * sm r fun s => V j s * Y s j0) = sm r fun s => mul n Y V t s * Y s j0 := this.symm
          rw [e3, sm_congr fun s hs => by rw [h.yv t ht s hs], sm_dl_l (f := fun s => Y s j0) ht]
        rw [e1, e2, sm_dl_r (f := fun j => Y t j) hj]; grind
      have hbv : sm n (fun j => b j * v j) = 1 := by
        have e1 : sm n (fun j => b j * v j) = (sm n (fun j => b j * dl j j0) - sm n (fun j => b j * sm r fun s => V j s * Y s j0)) / b j0 := by
          rw [← sm_sub, Rat.div_def, ← sm_mulr]
          exact sm_congr fun j _ => by show b j * ((dl j j0 - sm r fun t => V j t * Y t j0) / b j0) = _; rw [Rat.div_def]; grind
        have e2 : sm n (fun j => b j * sm r fun s => V j s * Y s j0) = 0 := by
          have := congrFun (congrFun (mul_assoc n r (fun _ j => b j) V Y) 0) j0
          have e3 : sm n (fun j => b j * sm r fun s => V j s * Y s j0) = sm r fun s => sm n (fun j => b j * V j s) * Y s j0 := this.symm
          rw [e3, sm_zero fun s hs => by rw [hbV s hs]; grind]
        rw [e1, e2, sm_dl_r (f := b) hj]; grind
      refine ⟨r + 1, fun i t => if i < m then (if t < r then X i t else 0) else (if t < r then c t else 1), fun t j => if t < r then Y t j else b j,
        fun t i => if t < r then (if i < m then U t i else 0) else (if i < m then -(sm r fun s => c s * U s i) else 1), fun j t => if t < r then V j t else v j, ?_, ?_, ?_⟩
      · intro i hi j hj
        show A i j = sm r _ + _
        dsimp only
        have e0 : ∀ (F G : Nat → Rat) (z : Rat), (∀ t, t < r → F t = G t) → z = 0 → sm r G = sm r F + z := fun F G z h1 h2 => by rw [sm_congr h1, h2]; grind
        by_cases him : i < m
        · rw [h.eq i him j hj]
          exact e0 _ (fun t => X i t * Y t j) _ (fun t ht => by (try dsimp only); rw [if_pos him, if_pos ht, if_pos ht]) (by rw [if_pos him, if_neg (by omega)]; grind)
        · obtain rfl : i = m := by omega
          have e1 : ∀ (F G : Nat → Rat) (z w : Rat), (∀ t, t < r → F t = G t) → z = w - sm r G → w = sm r F + z := fun F G z w h1 h2 => by rw [sm_congr h1, h2]; grind
          exact e1 _ (fun t => c t * Y t j) _ _ (fun t ht => by (try dsimp only); rw [if_neg him, if_pos ht, if_pos ht]) (by rw [if_neg him, if_neg (by omega), if_neg (by omega)]; show 1 * (A i j - sm r fun t => c t * Y t j) = _; grind)
      · intro t ht s hs
        show sm m _ + _ = dl t s
        dsimp only
        by_cases htr : t < r
        · rw [sm_congr (g := fun i => U t i * (if s < r then X i s else 0)) fun i hi => by (try dsimp only); rw [if_pos htr, if_pos hi, if_pos hi], if_pos htr, if_neg (by omega)]
          by_cases hsr : s < r
          · rw [sm_congr (g := fun i => U t i * X i s) fun i hi => by (try dsimp only); rw [if_pos hsr]]
            have := h.ux t htr s hsr
            show mul m U X t s + _ = _
            rw [this]; grind
          · rw [sm_zero fun i hi => by rw [if_neg hsr]; grind, dl_ne (by omega)]; grind
        · obtain rfl : t = r := by omega
          rw [sm_congr (g := fun i => -(sm t fun s => c s * U s i) * (if s < t then X i s else 0)) fun i hi => by (try dsimp only); rw [if_neg htr, if_pos hi, if_pos hi], if_neg htr, if_neg (by omega), if_neg (by omega)]
          by_cases hsr : s < t
          · rw [sm_congr (g := fun i => - (sm t (fun s => c s * U s i) * X i s)) fun i hi => by (try dsimp only); rw [if_pos hsr]; grind, sm_neg]
            have := congrFun (congrFun (mul_assoc t m (fun _ s => c s) U X) 0) s
            have e3 : sm m (fun i => sm t (fun s => c s * U s i) * X i s) = sm t fun q => c q * mul m U X q s := this
            rw [e3, sm_congr fun q hq => by rw [h.ux q hq s hsr], sm_dl_r (f := c) hsr, if_pos hsr, dl_ne (by omega)]; grind
          · rw [sm_zero fun i hi => by rw [if_neg hsr]; grind, if_neg hsr, show s = t by omega, dl_self]; grind
      · intro t ht s hs
        show sm n _ = dl t s
        by_cases htr : t < r
        · by_cases hsr : s < r
          · rw [← h.yv t htr s hsr]
            exact sm_congr fun j hj => by (try dsimp only); rw [if_pos htr, if_pos hsr]
          · rw [dl_ne (by omega), ← hYv t htr]
            exact sm_congr fun j hj => by (try dsimp only); rw [if_pos htr, if_neg hsr]
        · by_cases hsr : s < r
          · rw [dl_ne (by omega), ← hbV s hsr]
            exact sm_congr fun j hj => by (try dsimp only); rw [if_neg htr, if_pos hsr]
          · rw [show s = t by omega, dl_self, ← hbv]
            exact sm_congr fun j hj => by (try dsimp only); rw [if_neg htr, if_neg (by omega)]
    · have hb0 : ∀ j, j < n → b j = 0 := fun j hj => Classical.byContradiction fun z => hz ⟨j, hj, z⟩
      refine ⟨r, fun i t => if i < m then X i t else c t, Y, fun t i => if i < m then U t i else 0, V, ?_, ?_, h.yv⟩
      · intro i hi j hj
        show A i j = sm r _
        by_cases him : i < m
        · rw [h.eq i him j hj]
          exact sm_congr fun t _ => by (try dsimp only); rw [if_pos him]
        · obtain rfl : i = m := by omega
          have := hb0 j hj
          rw [sm_congr (g := fun t => c t * Y t j) fun t ht => by (try dsimp only); rw [if_neg him]]
          have : A i j - sm r (fun t => c t * Y t j) = 0 := this
          grind
      · intro t ht s hs
        show sm m _ + _ = dl t s
        dsimp only
        rw [if_neg (by omega), ← h.ux t ht s hs]
        show _ = sm m fun i => U t i * X i s
        rw [sm_congr (g := fun i => U t i * X i s) fun i hi => by (try dsimp only); rw [if_pos hi, if_pos hi]]
        grind
theorem rk_ex (m n : Nat) (A : Mx) : ∃ r, Rk m n r A := let ⟨r, _, _, _, _, h⟩ := pair_ex n A m; ⟨r, h.rk⟩
/-- the rank of any table -/
noncomputable def rk (m n : Nat) (A : Mx) : Nat := Classical.choose (rk_ex m n A)
theorem rk_ok (m n : Nat) (A : Mx) : Rk m n (rk m n A) A := Classical.choose_spec (rk_ex m n A)
theorem Rk.eq {m n r : Nat} {A : Mx} (h : Rk m n r A) : rk m n A = r := (rk_ok m n A).uniq h
theorem rk_congr {m n : Nat} {A B : Mx} (e : Eqm m n A B) : rk m n A = rk m n B := ((rk_ok m n B).congr e.symm).eq
theorem le_rk {m n k : Nat} {A : Mx} : Le m n k A ↔ rk m n A ≤ k := ⟨fun h => ge_le (rk_ok m n A).ge h, fun h => (rk_ok m n A).le.mono h⟩
theorem ge_rk {m n k : Nat} {A : Mx} : Ge m n k A ↔ k ≤ rk m n A := ⟨fun h => ge_le h (rk_ok m n A).le, fun h => (rk_ok m n A).ge.mono h⟩
/-- A B = 1 only if B A = 1 -/
theorem inv_comm {n : Nat} {A B : Mx} (h : Eqm n n (mul n A B) dl) : Eqm n n (mul n B A) dl := by
  refine fun a ha b hb => Classical.byContradiction fun hne => ?_
  let v : Nat → Rat := fun j => dl j b - mul n B A j b
  have hAv : ∀ i, i < n → sm n (fun j => A i j * v j) = 0 := fun i hi => by
    have e1 : sm n (fun j => A i j * v j) = sm n (fun j => A i j * dl j b) - sm n (fun j => A i j * mul n B A j b) := by
      rw [← sm_sub]; exact sm_congr fun j _ => by show A i j * (dl j b - mul n B A j b) = _; grind
    have e2 : sm n (fun j => A i j * mul n B A j b) = A i b := by
      have := congrFun (congrFun (mul_assoc n n A B A) i) b
      have e3 : sm n (fun j => A i j * mul n B A j b) = sm n fun s => mul n A B i s * A s b := this.symm
      rw [e3, sm_congr fun s hs => by rw [h i hi s hs], sm_dl_l (f := fun s => A s b) hi]
    rw [e1, e2, sm_dl_r (f := fun j => A i j) hb]; grind
  have hva : v a ≠ 0 := fun z => hne (by have : dl a b - mul n B A a b = 0 := z; grind)
  have := dim n (n + 1) (fun i t => if i < n then A i t else (dl a t - sm n fun s => B a s * A s t) / v a) (fun t j => if j < n then B t j else v t) fun i hi j hj => by
    show dl i j = sm n _
    by_cases hin : i < n
    · by_cases hjn : j < n
      · rw [← h i hin j hjn]
        exact sm_congr fun t _ => by (try dsimp only); rw [if_pos hin, if_pos hjn]
      · rw [dl_ne (by omega), ← hAv i hin]
        exact sm_congr fun t _ => by (try dsimp only); rw [if_pos hin, if_neg hjn]
    · by_cases hjn : j < n
      · rw [dl_ne (by omega)]
        rw [sm_congr (g := fun t => (dl a t * B t j - sm n (fun s => B a s * A s t) * B t j) * (1 / v a)) fun t _ => by (try dsimp only); rw [if_neg hin, if_pos hjn]; grind, sm_mulr, sm_sub, sm_dl_l (f := fun t => B t j) ha]
        have := congrFun (congrFun (mul_assoc n n (fun _ s => B a s) A B) 0) j
        have e3 : sm n (fun t => sm n (fun s => B a s * A s t) * B t j) = sm n fun s => B a s * mul n A B s j := this
        rw [e3, sm_congr fun s hs => by rw [h s hs j hjn], sm_dl_r (f := fun s => B a s) hjn]; grind
      · rw [show j = i by omega, dl_self]
        rw [sm_congr (g := fun t => (dl a t * v t - sm n (fun s => B a s * A s t) * v t) * (1 / v a)) fun t _ => by (try dsimp only); rw [if_neg hin, if_neg (by omega)]; grind, sm_mulr, sm_sub, sm_dl_l (f := v) ha]
        have := congrFun (congrFun (mul_assoc n n (fun _ s => B a s) A (fun t _ => v t)) 0) 0
        have e3 : sm n (fun t => sm n (fun s => B a s * A s t) * v t) = sm n fun s => B a s * sm n fun t => A s t * v t := this
        rw [e3, sm_zero fun s hs => by rw [hAv s hs]; grind]; grind
  omega
/-- a square table with an inverse -/
def Inv (n : Nat) (A B : Mx) : Prop := Eqm n n (mul n A B) dl ∧ Eqm n n (mul n B A) dl
theorem Inv.of {n : Nat} {A B : Mx} (h : Eqm n n (mul n A B) dl) : Inv n A B := ⟨h, inv_comm h⟩
theorem Inv.ofl {n : Nat} {A B : Mx} (h : Eqm n n (mul n B A) dl) : Inv n A B := ⟨inv_comm h, h⟩
theorem Inv.symm {n : Nat} {A B : Mx} (h : Inv n A B) : Inv n B A := ⟨h.2, h.1⟩
theorem Inv.uniq {n : Nat} {A B C : Mx} (h : Inv n A B) (g : Eqm n n (mul n A C) dl) : Eqm n n B C := by
  have e : Eqm n n (mul n (mul n B A) C) C := (Eqm.mul h.2 Eqm.refl).trans (dl_mul C)
  rw [mul_assoc] at e
  exact ((mul_dl B).symm.trans (Eqm.mul Eqm.refl g.symm)).trans e
theorem Inv.rk {n : Nat} {A B : Mx} (h : Inv n A B) : LA.rk n n A = n := by
  have g : Ge n n n A := ⟨dl, B, (dl_mul _).trans h.1⟩
  exact Nat.le_antisymm (rk_ok n n A).le_rows (ge_rk.mp g)
/-- a square table of full rank has an inverse -/
theorem inv_of_rk {n : Nat} {A : Mx} (h : LA.rk n n A = n) : ∃ B, Inv n A B := by
  obtain ⟨U, V, g⟩ := ge_rk.mpr (Nat.le_of_eq h.symm)
  refine ⟨mul n V U, Inv.of ?_⟩
  have i1 : Inv n U (mul n A V) := Inv.of g
  have e := i1.2
  rw [mul_assoc] at e
  exact e
/-- turned by an invertible table the rank stays -/
theorem rk_lmul {m n : Nat} {T S A : Mx} (h : Inv m T S) : LA.rk m n (mul m T A) = LA.rk m n A := by
  refine Nat.le_antisymm (le_rk.mp ((rk_ok m n A).le.lmul T)) (ge_rk.mp ?_)
  have e : Eqm m n (mul m S (mul m T A)) A := by
    rw [← mul_assoc]
    exact (Eqm.mul h.2 Eqm.refl).trans (dl_mul A)
  exact ((rk_ok m n A).ge.congr e.symm).lmul
theorem rk_part {m n p q : Nat} (A : Mx) {f g : Nat → Nat} (hf : ∀ i, i < p → f i < m) (hg : ∀ j, j < q → g j < n) : LA.rk p q (fun i j => A (f i) (g j)) ≤ LA.rk m n A := le_rk.mp ((rk_ok m n A).le.part f g hf hg)
end LA
/-! Rows that are sums of rows; the rank of stairs. -/
namespace LA
/-- B's rows are sums of multiples of A's -/
def RS (m n : Nat) (A B : Mx) : Prop := ∃ T, Eqm m n B (mul m T A)
theorem RS.refl {m n : Nat} {A : Mx} : RS m n A A := ⟨dl, (dl_mul A).symm⟩
theorem RS.trans {m n : Nat} {A B C : Mx} (h : RS m n A B) (g : RS m n B C) : RS m n A C := by
  obtain ⟨T, h⟩ := h
  obtain ⟨S, g⟩ := g
  refine ⟨mul m S T, g.trans ?_⟩
  rw [mul_assoc]
  exact Eqm.mul Eqm.refl h
theorem RS.rk_le {m n : Nat} {A B : Mx} (h : RS m n A B) : rk m n B ≤ rk m n A := by
  obtain ⟨T, h⟩ := h
  rw [rk_congr h]
  exact le_rk.mp ((rk_ok m n A).le.lmul T)
theorem RS.comb {m n : Nat} {A B : Mx} {f g : Nat → Nat} {a b : Nat → Rat} (hf : ∀ i, i < m → f i < m) (hg : ∀ i, i < m → g i < m) (h : ∀ i, i < m → ∀ j, j < n → B i j = a i * A (f i) j + b i * A (g i) j) : RS m n A B := by
  refine ⟨fun i t => a i * dl (f i) t + b i * dl (g i) t, fun i hi j hj => ?_⟩
  show B i j = sm m fun t => (a i * dl (f i) t + b i * dl (g i) t) * A t j
  rw [h i hi j hj, sm_congr (g := fun t => a i * (dl (f i) t * A t j) + b i * (dl (g i) t * A t j)) fun t _ => by grind, sm_add, sm_mul, sm_mul, sm_dl_l (f := fun t => A t j) (hf i hi), sm_dl_l (f := fun t => A t j) (hg i hi)]
structure RE (m n : Nat) (A B : Mx) : Prop where
  to : RS m n A B
  back : RS m n B A
theorem RE.refl {m n : Nat} {A : Mx} : RE m n A A := ⟨.refl, .refl⟩
theorem RE.trans {m n : Nat} {A B C : Mx} (h : RE m n A B) (g : RE m n B C) : RE m n A C := ⟨h.to.trans g.to, g.back.trans h.back⟩
theorem RE.rk {m n : Nat} {A B : Mx} (h : RE m n A B) : rk m n A = rk m n B := Nat.le_antisymm h.back.rk_le h.to.rk_le
theorem RS.congr {m n : Nat} {A B : Mx} (h : Eqm m n A B) : RS m n A B := ⟨dl, h.symm.trans (dl_mul A).symm⟩
theorem RE.congr {m n : Nat} {A B : Mx} (h : Eqm m n A B) : RE m n A B := ⟨.congr h, .congr h.symm⟩
/-- stairs have an inverse on one side -/
theorem tri_inv (E : Mx) : ∀ k : Nat, (∀ i, i < k → E i i ≠ 0) → (∀ i, i < k → ∀ j, j < i → E i j = 0) → ∃ V, Eqm k k (mul k E V) dl
  | 0, _, _ => ⟨E, fun _ h => absurd h (by omega)⟩
  | k + 1, hd, hz => by
    obtain ⟨V, hV⟩ := tri_inv E k (fun i hi => hd i (by omega)) fun i hi => hz i (by omega)
    have hdk := hd k (by omega)
    refine ⟨fun t j => if t < k then (if j < k then V t j else -(sm k fun s => V t s * E s k) / E k k) else (if j < k then 0 else 1 / E k k), fun i hi j hj => ?_⟩
    show sm k _ + E i k * (if k < k then _ else _) = dl i j
    rw [if_neg (by omega)]
    by_cases hik : i < k
    · by_cases hjk : j < k
      · have := hV i hik j hjk
        have e : sm k (fun t => E i t * V t j) = dl i j := this
        rw [sm_congr (g := fun t => E i t * V t j) fun t ht => by (try dsimp only); rw [if_pos ht, if_pos hjk], e, if_pos hjk]
        grind
      · rw [dl_ne (by omega), if_neg hjk]
        rw [sm_congr (g := fun t => (E i t * sm k fun s => V t s * E s k) * (-1 / E k k)) fun t ht => by (try dsimp only); rw [if_pos ht, if_neg hjk]; grind, sm_mulr]
        have e2 : sm k (fun t => E i t * sm k fun s => V t s * E s k) = E i k := by
          have e3 := congrFun (congrFun (mul_assoc k k E V E) i) k
          have e4 : sm k (fun t => E i t * sm k fun s => V t s * E s k) = sm k fun s => mul k E V i s * E s k := e3.symm
          rw [e4, sm_congr fun s hs => by rw [hV i hik s hs], sm_dl_l (f := fun s => E s k) hik]
        rw [e2]; grind
    · obtain rfl : i = k := by omega
      rw [sm_zero fun t ht => by rw [hz i (by omega) t ht]; grind]
      by_cases hjk : j < i
      · rw [if_pos hjk, dl_ne (by omega)]; grind
      · rw [if_neg hjk, show j = i by omega, dl_self]; grind
theorem ech_rk {m n k : Nat} {W : Mx} {p : Nat → Nat} (hk : k ≤ m) (hp : ∀ i, i < k → p i < n) (hd : ∀ i, i < k → W i (p i) ≠ 0) (hz : ∀ i, i < k → ∀ j, j < i → W i (p j) = 0) (h0 : ∀ i, k ≤ i → i < m → ∀ j, j < n → W i j = 0) : rk m n W = k := by
  refine Rk.eq ⟨⟨dl, W, fun i hi j hj => ?_⟩, ?_⟩
  · show W i j = sm k fun t => dl i t * W t j
    by_cases hik : i < k
    · rw [sm_dl_l (f := fun t => W t j) hik]
    · rw [h0 i (by omega) hi j hj, sm_zero fun t ht => by rw [dl_ne (by omega)]; grind]
  · obtain ⟨V, hV⟩ := tri_inv (fun i j => W i (p j)) k hd hz
    have g : Ge k k k (fun i j => W i (p j)) := ⟨dl, V, (dl_mul _).trans hV⟩
    exact Ge.part (f := fun i => i) (g := p) (fun i hi => by omega) hp g
end LA
/-! Stairs of whole numbers, made without division. -/
namespace LA
abbrev ZT := List (List Int)
def row (W : ZT) (i : Nat) : List Int := W.getD i []
def ent (W : ZT) (i j : Nat) : Int := (row W i).getD j 0
def matZ (W : ZT) : Mx := fun i j => ((ent W i j : Int) : Rat)
def swapL (W : ZT) (k t : Nat) : ZT := (W.set k (row W t)).set t (row W k)
def el (lead : List Int) (s : Nat) (r : List Int) : List Int := if r.getD s 0 = 0 then r else (r.zip lead).map fun z => z.1 * lead.getD s 0 - z.2 * r.getD s 0
/-- the rows between k and a are done -/
def elimTo (W : ZT) (k s a : Nat) : ZT := W.mapIdx fun i r => if k < i ∧ i < a then el (row W k) s r else r
theorem row_set {W : ZT} {k : Nat} {r : List Int} (h : k < W.length) (i : Nat) : row (W.set k r) i = if i = k then r else row W i := by
  unfold row
  rw [List.getD_eq_getElem?_getD, List.getD_eq_getElem?_getD]
  by_cases e : i = k
  · subst e
    rw [if_pos rfl, List.getElem?_set_self h]
    rfl
  · rw [if_neg e, List.getElem?_set_ne (Ne.symm e)]
theorem swapL_len (W : ZT) (k t : Nat) : (swapL W k t).length = W.length := by unfold swapL; simp
theorem row_swap {W : ZT} {k t : Nat} (hk : k < W.length) (ht : t < W.length) (i : Nat) : row (swapL W k t) i = if i = t then row W k else if i = k then row W t else row W i := by
  unfold swapL
  rw [row_set (by simpa using ht), row_set hk]
theorem elimTo_len (W : ZT) (k s a : Nat) : (elimTo W k s a).length = W.length := by unfold elimTo; simp
theorem row_elim {W : ZT} {k s a i : Nat} (hi : i < W.length) : row (elimTo W k s a) i = if k < i ∧ i < a then el (row W k) s (row W i) else row W i := by
  unfold row elimTo
  rw [List.getD_eq_getElem?_getD, List.getElem?_mapIdx, List.getElem?_eq_getElem hi]
  simp only [Option.map_some, Option.getD_some]
  rw [List.getD_eq_getElem?_getD (l := W) (i := i), List.getElem?_eq_getElem hi]
  rfl
theorem ext_row {W V : ZT} (hl : W.length = V.length) (h : ∀ i, i < W.length → row W i = row V i) : W = V := by
  refine List.ext_getElem hl fun i h1 h2 => ?_
  have := h i h1
  unfold row at this
  rw [List.getD_eq_getElem?_getD, List.getD_eq_getElem?_getD, List.getElem?_eq_getElem h1, List.getElem?_eq_getElem h2] at this
  exact this
/-- the state ahead of column s -/
structure StA (m n b : Nat) (A : Mx) (s : Nat) (W : ZT) (p : List Nat) : Prop where
  tall : W.length = m
  wide : ∀ i, i < m → (row W i).length = n
  bits : ∀ i, i < m → ∀ x ∈ row W i, 2 * x.natAbs ≤ 2 ^ ((b + 1) * 2 ^ p.length)
  re : RE m n A (matZ W)
  pm : p.length ≤ m
  ps : ∀ i, i < p.length → p.getD i 0 < s
  piv : ∀ i, i < p.length → ent W i (p.getD i 0) ≠ 0
  ech : ∀ i, i < p.length → ∀ j, j < i → ent W i (p.getD j 0) = 0
  low : ∀ i, p.length ≤ i → i < m → ∀ j, j < s → ent W i j = 0
theorem StA.skip {m n b s : Nat} {A : Mx} {W : ZT} {p : List Nat} (h : StA m n b A s W p) (z : ∀ i, p.length ≤ i → i < m → ent W i s = 0) : StA m n b A (s + 1) W p :=
  { h with
    ps := fun i hi => Nat.lt_succ_of_lt (h.ps i hi)
    low := fun i h1 h2 j hj => by
      by_cases e : j = s
      · subst e; exact z i h1 h2
      · exact h.low i h1 h2 j (by omega) }
theorem getD_zip {r l : List Int} {j : Nat} (h : r.length = l.length) (f : Int → Int → Int) (f0 : f 0 0 = 0) : ((r.zip l).map fun z => f z.1 z.2).getD j 0 = f (r.getD j 0) (l.getD j 0) := by
  rw [List.getD_eq_getElem?_getD, List.getD_eq_getElem?_getD, List.getD_eq_getElem?_getD, List.getElem?_map]
  by_cases hj : j < r.length
  · rw [List.getElem?_eq_getElem (l := r) hj, List.getElem?_eq_getElem (l := l) (by omega), List.getElem?_eq_getElem (l := r.zip l) (by rw [List.length_zip]; omega)]
    simp
  · rw [List.getElem?_eq_none (l := r) (by omega), List.getElem?_eq_none (l := l) (by omega), List.getElem?_eq_none (l := r.zip l) (by rw [List.length_zip]; omega)]
    simp [f0]
theorem el_len {lead r : List Int} {s : Nat} (h : r.length = lead.length) : (el lead s r).length = r.length := by
  unfold el
  split
  · rfl
  · simp [h]
theorem el_at {lead r : List Int} {s : Nat} (h : r.length = lead.length) (j : Nat) : (el lead s r).getD j 0 = if r.getD s 0 = 0 then r.getD j 0 else r.getD j 0 * lead.getD s 0 - lead.getD j 0 * r.getD s 0 := by
  unfold el
  split
  · rfl
  · exact getD_zip h (fun x y => x * lead.getD s 0 - y * r.getD s 0) (by simp)
theorem mem_zip_map {r l : List Int} {f : Int → Int → Int} {x : Int} (h : x ∈ (r.zip l).map fun z => f z.1 z.2) : ∃ a ∈ r, ∃ b ∈ l, x = f a b := by
  obtain ⟨z, hz, rfl⟩ := List.mem_map.mp h
  obtain ⟨h1, h2⟩ := List.of_mem_zip (a := z.1) (b := z.2) hz
  exact ⟨_, h1, _, h2, rfl⟩
theorem getD_mem {r : List Int} {j : Nat} (h : j < r.length) : r.getD j 0 ∈ r := by
  rw [List.getD_eq_getElem?_getD, List.getElem?_eq_getElem h]
  exact List.getElem_mem h
theorem two_pow {a b c d : Int} {g : Nat} (ha : 2 * a.natAbs ≤ 2 ^ g) (hb : 2 * b.natAbs ≤ 2 ^ g) (hc : 2 * c.natAbs ≤ 2 ^ g) (hd : 2 * d.natAbs ≤ 2 ^ g) : 2 * (a * b - c * d).natAbs ≤ 2 ^ (2 * g) := by
  have h1 : (a * b - c * d).natAbs ≤ a.natAbs * b.natAbs + c.natAbs * d.natAbs := by
    rw [← Int.natAbs_mul, ← Int.natAbs_mul]
    omega
  have h2 := Nat.mul_le_mul ha hb
  have h3 := Nat.mul_le_mul hc hd
  rw [← Nat.pow_add, ← Nat.two_mul] at h2 h3
  have e1 : 2 * a.natAbs * (2 * b.natAbs) = 4 * (a.natAbs * b.natAbs) := by grind
  have e2 : 2 * c.natAbs * (2 * d.natAbs) = 4 * (c.natAbs * d.natAbs) := by grind
  rw [e1] at h2
  rw [e2] at h3
  omega
/-- one column is done: row t comes up, those below are cleared -/
theorem StA.step {m n b s t : Nat} {A : Mx} {W : ZT} {p : List Nat} (h : StA m n b A s W p) (hs : s < n) (ht : p.length ≤ t) (tm : t < m) (hz : ent W t s ≠ 0) : StA m n b A (s + 1) (elimTo (swapL W p.length t) p.length s m) (p ++ [s]) := by
  have hk : p.length < m := by omega
  have lW := h.tall
  have l1 : (swapL W p.length t).length = m := by rw [swapL_len, lW]
  have r1 : ∀ i, row (swapL W p.length t) i = if i = t then row W p.length else if i = p.length then row W t else row W i := row_swap (by omega) (by omega)
  have rk1 : row (swapL W p.length t) p.length = row W t := by
    rw [r1]
    by_cases e : p.length = t
    · rw [if_pos e, e]
    · rw [if_neg e, if_pos rfl]
  have wide1 : ∀ i, i < m → (row (swapL W p.length t) i).length = n := fun i hi => by
    rw [r1]
    split
    · exact h.wide _ hk
    · split
      · exact h.wide _ tm
      · exact h.wide _ hi
  have bits1 : ∀ i, i < m → ∀ x ∈ row (swapL W p.length t) i, 2 * x.natAbs ≤ 2 ^ ((b + 1) * 2 ^ p.length) := fun i hi => by
    rw [r1]
    split
    · exact h.bits _ hk
    · split
      · exact h.bits _ tm
      · exact h.bits _ hi
  have low1 : ∀ i, p.length ≤ i → i < m → ∀ j, j < s → (row (swapL W p.length t) i).getD j 0 = 0 := fun i h1 h2 j hj => by
    rw [r1]
    split
    · exact h.low _ (Nat.le_refl _) hk j hj
    · split
      · exact h.low _ ht tm j hj
      · exact h.low _ h1 h2 j hj
  have ahead1 : ∀ i, i < p.length → row (swapL W p.length t) i = row W i := fun i hi => by rw [r1, if_neg (by omega), if_neg (by omega)]
  generalize hV : swapL W p.length t = V at *
  have r2 : ∀ i, i < m → row (elimTo V p.length s m) i = if p.length < i then el (row V p.length) s (row V i) else row V i := fun i hi => by
    rw [row_elim (by omega)]
    by_cases e : p.length < i
    · rw [if_pos ⟨e, hi⟩, if_pos e]
    · rw [if_neg (by omega), if_neg e]
  have lead : (row V p.length).getD s 0 ≠ 0 := by rw [rk1]; exact hz
  have e2 : ∀ i j, i < m → ent (elimTo V p.length s m) i j = if p.length < i ∧ ent V i s ≠ 0 then ent V i j * ent V p.length s - ent V p.length j * ent V i s else ent V i j := fun i j hi => by
    unfold ent
    rw [r2 i hi]
    by_cases e : p.length < i
    · rw [if_pos e, el_at (by rw [wide1 _ hi, wide1 _ hk])]
      by_cases e3 : (row V i).getD s 0 = 0
      · rw [if_pos e3, if_neg fun z => z.2 e3]
      · rw [if_neg e3, if_pos ⟨e, e3⟩]
    · rw [if_neg e, if_neg fun z => e z.1]
  have gp : ∀ i, i < p.length → (p ++ [s]).getD i 0 = p.getD i 0 := fun i hi => by
    rw [List.getD_eq_getElem?_getD, List.getD_eq_getElem?_getD, List.getElem?_append_left hi]
  have gs : (p ++ [s]).getD p.length 0 = s := by
    rw [List.getD_eq_getElem?_getD, List.getElem?_append_right (Nat.le_refl _)]
    simp
  refine ⟨by rw [elimTo_len, l1], fun i hi => ?_, fun i hi x hx => ?_, h.re.trans (RE.trans (B := matZ V) ?_ ?_), ?_, fun i hi => ?_, fun i hi => ?_, fun i hi j hj => ?_, fun i h1 h2 j hj => ?_⟩
  · rw [r2 i hi]
    split
    · rw [el_len (by rw [wide1 _ hi, wide1 _ hk]), wide1 _ hi]
    · exact wide1 _ hi
  · rw [r2 i hi] at hx
    rw [List.length_append, List.length_singleton, Nat.pow_succ]
    have g2 : (b + 1) * (2 ^ p.length * 2) = 2 * ((b + 1) * 2 ^ p.length) := by grind
    rw [g2]
    have mono : ∀ y : Int, 2 * y.natAbs ≤ 2 ^ ((b + 1) * 2 ^ p.length) → 2 * y.natAbs ≤ 2 ^ (2 * ((b + 1) * 2 ^ p.length)) := fun y hy => Nat.le_trans hy (Nat.pow_le_pow_right (by decide) (by omega))
    split at hx
    · unfold el at hx
      split at hx
      · exact mono _ (bits1 i hi x hx)
      · obtain ⟨a, ha, c, hc, rfl⟩ := mem_zip_map (f := fun x y => x * (row V p.length).getD s 0 - y * (row V i).getD s 0) hx
        exact two_pow (bits1 i hi a ha) (bits1 _ hk _ (getD_mem (by rw [wide1 _ hk]; exact hs))) (bits1 _ hk c hc) (bits1 i hi _ (getD_mem (by rw [wide1 _ hi]; exact hs)))
    · exact mono _ (bits1 i hi x hx)
  · -- the swap
    have e1 : ∀ i j, i < m → matZ V i j = matZ W (if i = t then p.length else if i = p.length then t else i) j := fun i j hi => by
      unfold matZ ent
      rw [r1]
      split
      · rfl
      · split <;> rfl
    have bnd : ∀ i, i < m → (if i = t then p.length else if i = p.length then t else i) < m := fun i hi => by split <;> (try split) <;> omega
    refine ⟨RS.comb (f := fun i => if i = t then p.length else if i = p.length then t else i) (g := fun i => i) (a := fun _ => 1) (b := fun _ => 0) bnd (fun i hi => hi) fun i hi j hj => by rw [e1 i j hi]; grind,
      RS.comb (f := fun i => if i = t then p.length else if i = p.length then t else i) (g := fun i => i) (a := fun _ => 1) (b := fun _ => 0) bnd (fun i hi => hi) fun i hi j hj => ?_⟩
    (try dsimp only)
    rw [e1 _ j (bnd i hi)]
    have : (if (if i = t then p.length else if i = p.length then t else i) = t then p.length else if (if i = t then p.length else if i = p.length then t else i) = p.length then t else (if i = t then p.length else if i = p.length then t else i)) = i := by
      by_cases c1 : i = t
      · subst c1
        simp only [if_true]
        split <;> omega
      · by_cases c2 : i = p.length
        · subst c2
          rw [if_neg c1, if_pos rfl, if_pos rfl]
        · rw [if_neg c1, if_neg c2, if_neg c1, if_neg c2]
    rw [this]
    grind
  · -- the clearing
    have ql : ((ent V p.length s : Int) : Rat) ≠ 0 := fun z => lead (by
      have := Rat.intCast_inj.mp (show ((ent V p.length s : Int) : Rat) = ((0 : Int) : Rat) from z)
      exact this)
    refine ⟨RS.comb (f := fun i => i) (g := fun _ => p.length) (a := fun i => if p.length < i ∧ ent V i s ≠ 0 then ((ent V p.length s : Int) : Rat) else 1) (b := fun i => if p.length < i ∧ ent V i s ≠ 0 then - ((ent V i s : Int) : Rat) else 0) (fun i hi => hi) (fun _ _ => hk) fun i hi j hj => ?_,
      RS.comb (f := fun i => i) (g := fun _ => p.length) (a := fun i => if p.length < i ∧ ent V i s ≠ 0 then 1 / ((ent V p.length s : Int) : Rat) else 1) (b := fun i => if p.length < i ∧ ent V i s ≠ 0 then ((ent V i s : Int) : Rat) / ((ent V p.length s : Int) : Rat) else 0) (fun i hi => hi) (fun _ _ => hk) fun i hi j hj => ?_⟩
    · unfold matZ
      rw [e2 i j hi]
      by_cases c : p.length < i ∧ ent V i s ≠ 0
      · rw [if_pos c, if_pos c, if_pos c, Rat.intCast_sub, Rat.intCast_mul, Rat.intCast_mul]; grind
      · rw [if_neg c, if_neg c, if_neg c]; grind
    · unfold matZ
      rw [e2 i j hi, e2 p.length j hk, if_neg (c := p.length < p.length ∧ _) (by omega)]
      by_cases c : p.length < i ∧ ent V i s ≠ 0
      · rw [if_pos c, if_pos c, if_pos c, Rat.intCast_sub, Rat.intCast_mul, Rat.intCast_mul]; grind
      · rw [if_neg c, if_neg c, if_neg c]; grind
  · rw [List.length_append, List.length_singleton]; omega
  · rw [List.length_append, List.length_singleton] at hi
    by_cases c : i < p.length
    · rw [gp i c]; exact Nat.lt_succ_of_lt (h.ps i c)
    · rw [show i = p.length by omega, gs]; omega
  · rw [List.length_append, List.length_singleton] at hi
    rw [e2 i _ (by omega), if_neg (by omega)]
    by_cases c : i < p.length
    · rw [gp i c]
      unfold ent
      rw [ahead1 i c]
      exact h.piv i c
    · rw [show i = p.length by omega, gs]; exact lead
  · rw [List.length_append, List.length_singleton] at hi
    rw [e2 i _ (by omega), if_neg (by omega), gp j (by omega)]
    by_cases c : i < p.length
    · unfold ent
      rw [ahead1 i c]
      exact h.ech i c j hj
    · rw [show i = p.length by omega]
      exact low1 _ (Nat.le_refl _) hk _ (h.ps j (by omega))
  · rw [List.length_append, List.length_singleton] at h1
    rw [e2 i _ h2]
    by_cases c : j < s
    · have z1 : ent V i j = 0 := low1 i (by omega) h2 j c
      have z2 : ent V p.length j = 0 := low1 _ (Nat.le_refl _) hk j c
      rw [z1, z2]
      split <;> simp
    · obtain rfl : j = s := by omega
      by_cases c2 : ent V i j = 0
      · rw [if_neg fun z => z.2 c2, c2]
      · rw [if_pos ⟨by omega, c2⟩, Int.mul_comm]; omega
theorem StA.done {m n b : Nat} {A : Mx} {W : ZT} {p : List Nat} (h : StA m n b A n W p) : rk m n A = p.length := by
  rw [h.re.rk]
  have q0 : ∀ {i j : Nat}, ent W i j ≠ 0 → matZ W i j ≠ 0 := fun hz z => hz (Rat.intCast_inj.mp (show ((ent W _ _ : Int) : Rat) = ((0 : Int) : Rat) from z))
  refine ech_rk (p := fun i => p.getD i 0) h.pm h.ps (fun i hi => q0 (h.piv i hi)) (fun i hi j hj => ?_) fun i h1 h2 j hj => ?_
  · show ((ent W i (p.getD j 0) : Int) : Rat) = 0
    rw [h.ech i hi j hj]; rfl
  · show ((ent W i j : Int) : Rat) = 0
    rw [h.low i h1 h2 j hj]; rfl
end LA
/-! The law's own rank, by whole numbers. -/
namespace Mir
open PySem L2 ML
/-- rows, as a tuple or as a list -/
def SeqOf (d : D) (rows : List (List Rat)) : Prop := d = .tuple (rows.map encRow) ∨ d = .list (rows.map encRow)
theorem SeqOf.items {d : D} {rows : List (List Rat)} (h : SeqOf d rows) : dItems d = some (rows.map encRow) := by rcases h with rfl | rfl <;> rfl
theorem SeqOf.len {d : D} {rows : List (List Rat)} (h : SeqOf d rows) : gLen [d] = some (.int (rows.length : Int)) := by rcases h with rfl | rfl <;> simp [gLen]
theorem SeqOf.head {d : D} {r : List Rat} {rows : List (List Rat)} (h : SeqOf d (r :: rows)) : dIx d (.int 0) = some (encRow r) := by
  rcases h with rfl | rfl
  · exact atI_of (xs := (r :: rows).map encRow) (i := 0) (by simp)
  · exact atI_of (xs := (r :: rows).map encRow) (i := 0) (by simp)
def cmnS (f : Nat) (q : Rat) : Nat := if f % q.den ≠ 0 then f * q.den else f
def cmn (r : List Rat) : Nat := r.foldl cmnS 1
theorem cmnS_pos {f : Nat} (h : 0 < f) (q : Rat) : 0 < cmnS f q := by
  unfold cmnS
  split
  · exact Nat.mul_pos h q.den_pos
  · exact h
theorem cmnS_dvd (f : Nat) (q : Rat) : f ∣ cmnS f q ∧ q.den ∣ cmnS f q := by
  unfold cmnS
  split
  · exact ⟨Nat.dvd_mul_right .., Nat.dvd_mul_left ..⟩
  · rename_i h
    exact ⟨Nat.dvd_refl _, Nat.dvd_of_mod_eq_zero (Decidable.not_not.mp h)⟩
theorem cmn_fold : ∀ (r : List Rat) (f : Nat), 0 < f → 0 < r.foldl cmnS f ∧ f ∣ r.foldl cmnS f ∧ ∀ q ∈ r, q.den ∣ r.foldl cmnS f
  | [], f, h => ⟨h, Nat.dvd_refl _, fun q hq => by cases hq⟩
  | q :: r, f, h => by
    obtain ⟨h1, h2, h3⟩ := cmn_fold r (cmnS f q) (cmnS_pos h q)
    obtain ⟨d1, d2⟩ := cmnS_dvd f q
    refine ⟨h1, Nat.dvd_trans d1 h2, fun x hx => ?_⟩
    rcases List.mem_cons.mp hx with rfl | hx
    · exact Nat.dvd_trans d2 h2
    · exact h3 x hx
theorem cmn_pos (r : List Rat) : 0 < cmn r := (cmn_fold r 1 (by decide)).1
theorem cmn_dvd {r : List Rat} {q : Rat} (h : q ∈ r) : q.den ∣ cmn r := (cmn_fold r 1 (by decide)).2.2 q h
theorem cmn_le {b : Nat} : ∀ (r : List Rat) (f k : Nat), (∀ q ∈ r, Qb b q) → f ≤ 2 ^ (b * k) → r.foldl cmnS f ≤ 2 ^ (b * (k + r.length))
  | [], f, k, _, h => h
  | q :: r, f, k, hq, h => by
    have h1 : cmnS f q ≤ 2 ^ (b * (k + 1)) := by
      have hd := Nat.le_of_lt (hq q List.mem_cons_self).den
      unfold cmnS
      split
      · have := mul_le_pow h hd
        rw [Nat.mul_add, Nat.mul_one]
        exact this
      · exact Nat.le_trans h (Nat.pow_le_pow_right (by decide) (Nat.mul_le_mul_left _ (by omega)))
    have := cmn_le r (cmnS f q) (k + 1) (fun x hx => hq x (List.mem_cons_of_mem _ hx)) h1
    rw [List.length_cons]
    rw [show k + (r.length + 1) = k + 1 + r.length by omega]
    exact this
theorem common_eq {r : List Rat} {b n : Nat} (hq : ∀ q ∈ r, Qb b q) (hn : r.length ≤ n) (hb : b * (n + 1) < 60000000) : mir__law_common [encRow r] = .ok (.int (cmn r : Int)) none := by
  refine ROk.eq ?_
  unfold mir__law_common
  refine ROk.mDef (env := [some _, none, none]) rfl rfl ?_
  unfold body__law_common
  walk_at "r"
  refine Fine.each_map encQ (fun rem e => ∃ (done : List Rat) (x : Option D), e = [some (encRow r), some (.int ((done.foldl cmnS 1 : Nat) : Int)), x] ∧ done ++ rem = r) ?_ ?_ r ?_
  · rintro q rem e ⟨dn, x, rfl, hd⟩
    have hqq := hq q (by rw [← hd]; simp)
    have hdn : dn.length + 1 ≤ n := by have := congrArg List.length hd; simp at this; omega
    have hpos := (cmn_fold dn 1 (by decide)).1
    have hle : dn.foldl cmnS 1 ≤ 2 ^ (b * (0 + dn.length)) := cmn_le dn 1 0 (fun y hy => hq y (by rw [← hd]; simp [hy])) (by simp)
    have hle2 : dn.foldl cmnS 1 ≤ 2 ^ (b * n) := Nat.le_trans hle (Nat.pow_le_pow_right (by decide) (Nat.mul_le_mul_left _ (by omega)))
    rw [Nat.mul_add, Nat.mul_one] at hb
    have dp := q.den_pos
    have e0 : cmnS (dn.foldl cmnS 1) q = (dn ++ [q]).foldl cmnS 1 := by simp
    walk_at "r"
    refine ⟨_, dMod_pos (by omega), ?_⟩
    walk_at "r"
    generalize hf : dn.foldl cmnS 1 = f at *
    have em : ((fun i => i) (f : Int)) % (q.den : Int) = ((f % q.den : Nat) : Int) := (Int.natCast_emod f q.den).symm
    rw [em]
    refine ⟨fun h => ?_, fun h => ?_⟩
    · have h : f % q.den ≠ 0 := by
        intro z
        rw [z] at h
        simp [PyData.eqv] at h
      walk_at "r"
      refine ⟨_, dMul_int (log_le hle2 (by omega)) (log_le (Nat.le_of_lt hqq.den) (by omega)), ?_⟩
      walk_at "r"
      refine ⟨dn ++ [q], some (encQ q), ?_, by rw [← hd]; simp⟩
      rw [← e0]
      unfold cmnS
      rw [if_pos h, Int.natCast_mul]
    · have h : f % q.den = 0 := by
        by_cases z : f % q.den = 0
        · exact z
        · exfalso
          simp [PyData.eqv] at h
          omega
      walk_at "r"
      refine ⟨dn ++ [q], some (encQ q), ?_, by rw [← hd]; simp⟩
      rw [← e0]
      unfold cmnS
      rw [if_neg (by omega)]
  · rintro e ⟨dn, x, rfl, hd⟩
    rw [List.append_nil] at hd
    subst hd
    refine .inl ⟨rfl, ?_⟩
    walk_at "r"
    exact ⟨rfl, rfl⟩
  · exact ⟨[], none, rfl, rfl⟩

def encZ (r : List Int) : D := .list (r.map .int)
def encZT (W : List (List Int)) : D := .list (W.map encZ)
def whl (r : List Rat) : List Int := r.map fun q => q.num * ((cmn r / q.den : Nat) : Int)
theorem wholes_eq {d : D} {rows : List (List Rat)} {b n : Nat} (hd : SeqOf d rows) (hq : ∀ r ∈ rows, r.length ≤ n ∧ ∀ q ∈ r, Qb b q) (hn : n ≤ 100) (hm : rows.length ≤ 100) (hb : b * (n + 1) < 60000000) : mir__law_wholes [d] = .ok (encZT (rows.map whl)) none := by
  refine ROk.eq ?_
  unfold mir__law_wholes
  refine ROk.mDef (env := [some _, none, none, none, none, none]) rfl rfl ?_
  unfold body__law_wholes
  walk_at "r"
  refine ⟨_, hd.items, ?_⟩
  refine Fine.each_map encRow (fun rem e => ∃ (done : List (List Rat)) (x2 x3 x4 x5 : Option D), e = [some d, some (encZT (done.map whl)), x2, x3, x4, x5] ∧ done ++ rem = rows) ?_ ?_ rows ?_
  · rintro r rem e ⟨dn, x2, x3, x4, x5, rfl, hd⟩
    have hr := hq r (by rw [← hd]; simp)
    have hl : dn.length ≤ 100 := by have := congrArg List.length hd; simp at this; omega
    have hb2 : b * n ≤ b * (n + 1) := Nat.mul_le_mul_left _ (by omega)
    have hb3 : b * (n + 1) = b * n + b := by rw [Nat.mul_add, Nat.mul_one]
    walk_at "r"
    refine ROk.of_eq (common_eq hr.2 hr.1 hb) ?_
    walk_at "r"
    refine Fine.comp_en r encQ (fun q => PyData.int (q.num * ((cmn r / q.den : Nat) : Int))) ?_ (by omega) ?_ ?_
    · walk_at "r"
      rfl
    · intro q hqr
      have hqq := hr.2 q hqr
      have c1 : cmn r ≤ 2 ^ (b * n) := Nat.le_trans (cmn_le r 1 0 hr.2 (by simp)) (Nat.pow_le_pow_right (by decide) (Nat.mul_le_mul_left _ (by omega)))
      have dp := q.den_pos
      walk_at "r"
      refine ⟨_, dDivP_pos (by omega), ?_⟩
      walk_at "r"
      have e2 : (cmn r : Int) / (q.den : Int) = ((cmn r / q.den : Nat) : Int) := (Int.natCast_ediv _ _).symm
      rw [e2]
      refine ⟨_, dMul_int (log_le (Nat.le_of_lt hqq.num) (by omega)) (log_le (Nat.le_trans (Nat.div_le_self _ _) c1) (by omega)), ?_⟩
      exact ⟨rfl, rfl⟩
    · refine ⟨_, rfl, decide_eq_true (by simp; omega), ?_⟩
      refine ⟨dn ++ [r], some (encRow r), some (.int (cmn r : Int)), x4, x5, ?_, by rw [← hd]; simp⟩
      unfold encZT
      rw [List.map_append, List.map_append]
      simp only [encZ, whl, List.map_map, List.map_cons, List.map_nil]
      rfl
  · rintro e ⟨dn, x2, x3, x4, x5, rfl, hd⟩
    rw [List.append_nil] at hd
    subst hd
    refine .inl ⟨rfl, ?_⟩
    walk_at "r"
    exact ⟨rfl, rfl⟩
  · exact ⟨[], _, _, _, _, rfl, rfl⟩
end Mir
/-! The law's own rank. -/
namespace Mir
open PySem L2 ML LA
def mat (A : List (List Rat)) : Mx := fun i j => (A.getD i []).getD j 0
theorem rngD_succ (lo k : Nat) : rngD (lo : Int) (k + 1) = .int (lo : Int) :: rngD ((lo + 1 : Nat) : Int) k := by
  unfold rngD
  rw [List.range_succ_eq_map, List.map_cons, List.map_map]
  refine congr (congrArg List.cons (congrArg PyData.int (by simp))) (List.map_congr_left fun i _ => congrArg PyData.int ?_)
  show (lo : Int) + ((i + 1 : Nat) : Int) = ((lo + 1 : Nat) : Int) + (i : Int)
  omega
/-- a loop over a range, by its index -/
theorem Fine.each_rng {Q : Fl → ME → Prop} {g : D → M Unit} {b : M Fl} (I : Nat → ME → Prop) : ∀ (k lo : Nat) (step : ∀ i e, lo ≤ i → i < lo + k → I i e → Fine (g (.int (i : Int)) e) fun _ e1 => Fine (b e1) fun fl e2 => match fl with
    | .nx => I (i + 1) e2
    | .ct => I (i + 1) e2
    | .bk => Q .nx e2
    | .rt d => Q (.rt d) e2) (fin : ∀ e, I (lo + k) e → Q .nx e) (e : ME) (_ : I lo e), Fine (mEach g b (rngD (lo : Int) k) e) Q
  | 0, lo, step, fin, e, h => Fine.each_nil (fin e h)
  | k + 1, lo, step, fin, e, h => by
    rw [rngD_succ]
    refine Fine.each_cons ((step lo e (Nat.le_refl _) (by omega) h).imp fun _ e1 h1 => h1.imp fun fl e2 h2 => ?_)
    have go : I (lo + 1) e2 → Fine (mEach g b (rngD ((lo + 1 : Nat) : Int) k) e2) Q := fun h3 => Fine.each_rng I k (lo + 1) (fun i e h4 h5 => step i e (by omega) (by omega)) (fun e h4 => fin e (by rw [show lo + (k + 1) = lo + 1 + k by omega]; exact h4)) e2 h3
    cases fl with
    | nx => exact go h2
    | ct => exact go h2
    | bk => exact h2
    | rt d => exact h2
theorem Fine.each_rng0 {Q : Fl → ME → Prop} {g : D → M Unit} {b : M Fl} (I : Nat → ME → Prop) (n : Nat) (step : ∀ i e, i < n → I i e → Fine (g (.int (i : Int)) e) fun _ e1 => Fine (b e1) fun fl e2 => match fl with
    | .nx => I (i + 1) e2
    | .ct => I (i + 1) e2
    | .bk => Q .nx e2
    | .rt d => Q (.rt d) e2) (fin : ∀ e, I n e → Q .nx e) (e : ME) (h : I 0 e) : Fine (mEach g b (rngD 0 n) e) Q :=
  Fine.each_rng I n 0 (fun i e _ h2 => step i e (by omega)) (fun e h => fin e (by rw [Nat.zero_add] at h; exact h)) e h
theorem ne_if (i j : Int) : (if true = true then !(PyData.int i).eqv (.int j) else (PyData.int i).eqv (.int j)) = decide (i ≠ j) := by
  simp [PyData.eqv]
  rfl
theorem eq_if (i j : Int) : (if false = true then !(PyData.int i).eqv (.int j) else (PyData.int i).eqv (.int j)) = decide (i = j) := by
  simp [PyData.eqv]
  rfl
theorem whl_get (r : List Rat) (j : Nat) : (((whl r).getD j 0 : Int) : Rat) = r.getD j 0 * ((cmn r : Nat) : Rat) := by
  unfold whl
  rw [List.getD_eq_getElem?_getD, List.getD_eq_getElem?_getD, List.getElem?_map]
  by_cases hj : j < r.length
  · rw [List.getElem?_eq_getElem hj]
    simp only [Option.map_some, Option.getD_some]
    obtain ⟨c, hc⟩ := cmn_dvd (List.getElem_mem hj)
    have z := rat_nd r[j]
    have d := den_ne r[j]
    have dp := r[j].den_pos
    have e : cmn r / r[j].den = c := by rw [hc]; exact Nat.mul_div_cancel_left _ dp
    rw [e, Rat.intCast_mul, Rat.intCast_natCast, hc, Rat.natCast_mul]
    generalize r[j] = q at *
    generalize (q.num : Rat) = a at *
    generalize (q.den : Rat) = b at *
    subst z
    grind
  · rw [List.getElem?_eq_none (by omega)]
    simp
theorem ent_whl {rows : List (List Rat)} {i : Nat} (hi : i < rows.length) (j : Nat) : matZ (rows.map whl) i j = mat rows i j * ((cmn (rows.getD i []) : Nat) : Rat) := by
  unfold matZ ent row mat
  rw [← whl_get]
  congr 2
  rw [List.getD_eq_getElem?_getD, List.getD_eq_getElem?_getD, List.getElem?_map, List.getElem?_eq_getElem hi]
  rfl
theorem sta_start {rows : List (List Rat)} {b n : Nat} (hw : ∀ r ∈ rows, r.length = n) (hq : ∀ r ∈ rows, ∀ q ∈ r, Qb b q) : StA rows.length n (b * (n + 1)) (mat rows) 0 (rows.map whl) [] := by
  have rw' : ∀ i, i < rows.length → ∃ r ∈ rows, row (rows.map whl) i = whl r := fun i hi => by
    refine ⟨rows[i], List.getElem_mem hi, ?_⟩
    unfold row
    rw [List.getD_eq_getElem?_getD, List.getElem?_map, List.getElem?_eq_getElem hi]
    rfl
  refine ⟨by simp, fun i hi => ?_, fun i hi x hx => ?_, ?_, Nat.zero_le _, fun i hi => absurd hi (by simp), fun i hi => absurd hi (by simp), fun i hi => absurd hi (by simp), fun i _ _ j hj => absurd hj (by omega)⟩
  · obtain ⟨r, hr, e⟩ := rw' i hi
    rw [e]
    unfold whl
    rw [List.length_map, hw r hr]
  · obtain ⟨r, hr, e⟩ := rw' i hi
    rw [e] at hx
    obtain ⟨q, hqr, rfl⟩ := List.mem_map.mp hx
    have h1 := Nat.le_of_lt (hq r hr q hqr).num
    have c1 : cmn r ≤ 2 ^ (b * n) := Nat.le_trans (cmn_le r 1 0 (hq r hr) (by simp)) (Nat.pow_le_pow_right (by decide) (Nat.mul_le_mul_left _ (by rw [hw r hr]; omega)))
    have h2 : (q.num * ((cmn r / q.den : Nat) : Int)).natAbs ≤ 2 ^ (b + b * n) := by
      rw [Int.natAbs_mul, Int.natAbs_natCast]
      exact mul_le_pow h1 (Nat.le_trans (Nat.div_le_self _ _) c1)
    have e2 : (b * (n + 1) + 1) * 2 ^ ([] : List Nat).length = (b + b * n) + 1 := by simp [Nat.mul_add]; omega
    rw [e2, Nat.pow_succ]
    omega
  · have cp : ∀ r : List Rat, ((cmn r : Nat) : Rat) ≠ 0 := fun r => by
      intro h
      have h1 := cmn_pos r
      have := Rat.intCast_inj.mp (show (((cmn r : Nat) : Int) : Rat) = ((0 : Int) : Rat) by rw [Rat.intCast_natCast]; exact h)
      omega
    refine ⟨RS.comb (f := fun i => i) (g := fun i => i) (a := fun i => ((cmn (rows.getD i []) : Nat) : Rat)) (b := fun _ => 0) (fun i hi => hi) (fun i hi => hi) fun i hi j hj => ?_, RS.comb (f := fun i => i) (g := fun i => i) (a := fun i => 1 / ((cmn (rows.getD i []) : Nat) : Rat)) (b := fun _ => 0) (fun i hi => hi) (fun i hi => hi) fun i hi j hj => ?_⟩
    · rw [ent_whl hi]; grind
    · rw [ent_whl hi]
      have := cp (rows.getD i [])
      grind
/-- [el for g in src if t], what is walked by what it stands for; nothing else changes -/
theorem Fine.comp_enF {e : ME} {us : List Nat} {g : D → M Unit} {t : M Bool} {el : M D} {src : M (List D)} {Q : D → ME → Prop} {α : Type} (xs : List α) (en : α → D) (P : α → Bool) (F : α → D) (hs : Fine (src e) fun ds' e1 => ds' = xs.map en ∧ e1 = e) (hf : xs.length ≤ 100000) (hel : ∀ x ∈ xs, Fine (g (en x) (wipeE e us)) fun _ e1 => Fine (t e1) fun b e2 => b = P x ∧ (b = true → Fine (el e2) fun y e3 => y = F x ∧ wipeE e3 us = wipeE e us) ∧ (b = false → wipeE e2 us = wipeE e us))
    (q : Q (.list ((xs.filter P).map F)) e) : Fine (mComp us src g t el e) Q := by
  refine Fine.comp (hs.imp fun ds' e1 ⟨h1, h2⟩ => ?_)
  subst h1 h2
  refine Fine.col_inv (fun r acc e' => ∃ p ys, xs = p ++ ys ∧ r = ys.map en ∧ acc = (p.filter P).map F ∧ e' = wipeE e1 us) (fun d r acc e' ⟨p, ys, hp, hr, ha, he⟩ => ?_) (fun acc e' ⟨p, ys, hp, hr, ha, he⟩ => ?_) (xs.map en) [] _ ⟨[], xs, rfl, rfl, rfl, rfl⟩
  · subst he
    cases ys with
    | nil => cases hr
    | cons y ys =>
      simp only [List.map_cons, List.cons.injEq] at hr
      obtain ⟨rfl, rfl⟩ := hr
      refine (hel y (by rw [hp]; simp)).imp fun _ e2 h => h.imp fun b e3 ⟨hb, ht, hf'⟩ => ⟨fun z => (ht z).imp fun y2 e4 ⟨hy, hw⟩ => ⟨?_, p ++ [y], ys, by rw [hp]; simp, rfl, ?_, hw⟩, fun z => ⟨p ++ [y], ys, by rw [hp]; simp, rfl, ?_, hf' z⟩⟩
      · refine decide_eq_true ?_
        have := congrArg List.length hp
        simp at this
        have h3 := List.length_filter_le P p
        rw [ha, List.length_map]
        omega
      · rw [ha, hy, List.filter_append, List.map_append]
        rw [hb] at z
        simp [List.filter, z]
      · rw [ha, List.filter_append, List.map_append]
        rw [hb] at z
        simp [List.filter, z]
  · have hy : ys = [] := by
      cases ys with
      | nil => rfl
      | cons y ys => cases hr
    subst hy
    rw [List.append_nil] at hp
    subst hp
    rw [ha, he, unwipe_wipe us e1 _ (wipe_idem us e1)]
    exact q
theorem ixN_nat {n i : Nat} (h : i < n) : ixN n (i : Int) = some i := by
  unfold ixN
  rw [if_pos (by omega), if_pos (by omega)]
  rfl
theorem dPut_nat {ds : List D} {i : Nat} {d : D} (h : i < ds.length) : dPut ds (.int (i : Int)) d = some (ds.set i d) := by
  show (ixN ds.length (i : Int)).map (fun j => ds.set j d) = _
  rw [ixN_nat h]
  rfl
theorem dIx_lst {ds : List D} {i : Nat} (h : i < ds.length) : dIx (.list ds) (.int (i : Int)) = some ds[i] := atI_of h
theorem dIx_z {r : List Int} {i : Nat} (h : i < r.length) : dIx (encZ r) (.int (i : Int)) = some (.int (r.getD i 0)) := by
  unfold encZ
  rw [dIx_lst (by simpa using h), List.getElem_map, List.getD_eq_getElem?_getD, List.getElem?_eq_getElem h]
  rfl
theorem dIx_zt {W : List (List Int)} {i : Nat} (h : i < W.length) : dIx (.list (W.map encZ)) (.int (i : Int)) = some (encZ (row W i)) := by
  rw [dIx_lst (by simpa using h), List.getElem_map]
  unfold row
  rw [List.getD_eq_getElem?_getD, List.getElem?_eq_getElem h]
  rfl
end Mir
/-! Small rules for walks. -/
namespace Mir
open PySem L2 ML LA
theorem ex_slot {X : Option (Option D)} {es : List D} {P : List D → Prop} (h : X = some (some (.list es))) (p : P es) : ∃ es, X = some (some (.list es)) ∧ P es := ⟨es, h, p⟩
theorem ex_ix0 {x : D} {xs : List D} {P : D → Prop} (p : P x) : ∃ z, dIx (.list (x :: xs)) (.int 0) = some z ∧ P z := ⟨x, atI_of (xs := x :: xs) (i := 0) (by simp), p⟩
theorem ex_ixt0 {x : D} {xs : List D} {P : D → Prop} (p : P x) : ∃ z, dIx (.tuple (x :: xs)) (.int 0) = some z ∧ P z := ⟨x, atI_of (xs := x :: xs) (i := 0) (by simp), p⟩
theorem fits_p {n : Nat} {P : Prop} (h : Nat.ble n 100000 = true) (p : P) : fits n = true ∧ P := ⟨decide_eq_true (Nat.le_of_ble_eq_true h), p⟩
theorem ex_bool {b : Bool} {P : Bool → Prop} (p : P b) : ∃ x, PyData.bool b = .bool x ∧ P x := ⟨b, rfl, p⟩
theorem ex_put {ds : List D} {i : Nat} {d : D} {P : List D → Prop} (h : i < ds.length) (p : P (ds.set i d)) : ∃ es, dPut ds (.int (i : Int)) d = some es ∧ P es := ⟨_, dPut_nat h, p⟩
theorem ex_ixz {r : List Int} {i : Nat} {P : D → Prop} (h : i < r.length) (p : P (.int (r.getD i 0))) : ∃ z, dIx (encZ r) (.int (i : Int)) = some z ∧ P z := ⟨_, dIx_z h, p⟩
theorem ex_ixzt {W : List (List Int)} {i : Nat} {P : D → Prop} (h : i < W.length) (p : P (encZ (row W i))) : ∃ z, dIx (.list (W.map encZ)) (.int (i : Int)) = some z ∧ P z := ⟨_, dIx_zt h, p⟩
theorem ex_ixrow {r : List Rat} {i : Nat} {P : D → Prop} (h : i < r.length) (p : P (encQ (r.getD i 0))) : ∃ z, dIx (encRow r) (.int (i : Int)) = some z ∧ P z := ⟨_, dIx_row h, p⟩
theorem ex_ixtab {g : List (List Rat)} {i : Nat} {P : D → Prop} (h : i < g.length) (p : P (encRow (g.getD i []))) : ∃ z, dIx (encTab g) (.int (i : Int)) = some z ∧ P z := ⟨_, dIx_tab h, p⟩
end Mir
local macro_rules | `(tactic| walk_at "n") => `(tactic| first
  | walk_at "s"
  | with_reducible apply Mir.Fine.par3
  | ((with_reducible apply Mir.Fine.sw); (focus rfl))
  | with_reducible apply Mir.Fine.listOf
  | with_reducible apply Mir.Fine.star
  | ((with_reducible apply Mir.ex_par3); (focus rfl); (try dsimp only [List.set_cons_zero, List.set_cons_succ]))
  | ((with_reducible apply Mir.ex_slot); (focus rfl))
  | with_reducible apply Mir.ex_ix0
  | with_reducible apply Mir.ex_ixt0
  | ((with_reducible apply Mir.fits_p); (focus rfl))
  | with_reducible apply Mir.ex_bool
  | ((with_reducible apply Mir.ex_add1); (focus (first | assumption | omega | (simp; omega) | (simp; done))))
  | ((with_reducible apply Mir.ex_addQ); (focus (first | assumption | omega | (simp; omega) | (simp; done))))
  | ((with_reducible apply Mir.ex_addR); (focus (first | assumption | omega | (simp; omega) | (simp; done))))
  | ((with_reducible apply Mir.ex_addRT); (focus (first | assumption | omega | (simp; omega) | (simp; done))))
  | ((with_reducible apply Mir.ex_addTR); (focus (first | assumption | omega | (simp; omega) | (simp; done))))
  | ((with_reducible apply Mir.ex_addTT); (focus (first | assumption | omega | (simp; omega) | (simp; done))))
  | ((with_reducible apply Mir.ex_rep0); (focus (first | assumption | omega | (simp; omega) | (simp; done))))
  | ((with_reducible apply Mir.ex_addT); (focus (first | assumption | omega | (simp; omega) | (simp; done))))
  | ((with_reducible apply Mir.ex_addL); (focus (first | assumption | omega | (simp; omega) | (simp; done))))
  | with_reducible apply Mir.ex_tupR
  | with_reducible apply Mir.ex_tupG
  | with_reducible apply Mir.ex_tupL
  | with_reducible apply Mir.ex_tupT
  | with_reducible apply Mir.ex_lenR
  | with_reducible apply Mir.ex_lenG
  | with_reducible apply Mir.ex_lenL
  | with_reducible apply Mir.ex_lenT
  | ((with_reducible apply Mir.ex_put); (focus (first | assumption | omega | (simp; omega))))
  | ((with_reducible apply Mir.ex_ixzt); (focus (first | assumption | omega | (simp; omega))))
  | ((with_reducible apply Mir.ex_ixz); (focus (first | assumption | omega | (simp; omega))))
  | ((with_reducible apply Mir.ex_ixrow); (focus (first | assumption | omega | (simp; omega))))
  | ((with_reducible apply Mir.ex_ixtab); (focus (first | assumption | omega | (simp; omega)))))
local macro_rules | `(tactic| walk_at "m") => `(tactic| repeat (walk_at "n"))
/-! The law's own rank. -/
namespace Mir
open PySem L2 ML LA
theorem near_nat {i : Nat} (h : i < 2 ^ 60) : near (i : Int) = true := by
  unfold near
  rw [Bool.and_eq_true]
  exact ⟨decide_eq_true (by omega), decide_eq_true (by omega)⟩
theorem Fine.range2N {Q : List D → ME → Prop} {e : ME} {a : M (List D)} (h : Fine (a e) fun ds e1 => ∃ lo hi : Nat, ds = [.int (lo : Int), .int (hi : Int)] ∧ lo < 2 ^ 60 ∧ hi < 2 ^ 60 ∧ Q (rngD (lo : Int) (hi - lo)) e1) : Fine (mRange2 a e) Q :=
  Fine.range2 (h.imp fun ds e1 ⟨lo, hi, h1, h2, h3, q⟩ => ⟨lo, hi, h1, near_nat h2, near_nat h3, by rw [show ((hi : Int) - (lo : Int)).toNat = hi - lo by omega]; exact q⟩)
theorem encZT_set {W : List (List Int)} {k : Nat} {r : List Int} : (W.map encZ).set k (encZ r) = (W.set k r).map encZ := by
  rw [List.map_set]
end Mir
/-! A place of a carrier, a step through it, and how far the numbers grow. -/
namespace Mir
open PySem L2 ML
theorem pow_dbl (n : Nat) : (2 : Nat) ^ (n + 1) = 2 ^ n + 2 ^ n := by rw [Nat.pow_succ, Nat.mul_two]
structure Stop where
  out : List Rat
  on : List (List Rat)
  inn : List Rat
def encStop (p : Stop) : D := .tuple [encRow p.out, encTab p.on, encRow p.inn]
/-- a place that takes `here` numbers and hands `there` on -/
structure StopOk (here there : Nat) (p : Stop) : Prop where
  out : p.out.length = here
  tall : p.on.length = there
  wide : ∀ r ∈ p.on, r.length = here
  inn : p.inn.length = there
  qo : ∀ q ∈ p.out, Qs 21 7 q
  qn : ∀ r ∈ p.on, ∀ q ∈ r, Qs 21 7 q
  qi : ∀ q ∈ p.inn, Qs 21 7 q
/-- what a place hands on -/
def stepQ (p : Stop) (held : List Rat) (x : Rat) : List Rat := ((p.on.map fun c => qdot c held).zip p.inn).map fun z => z.1 + z.2 * x
/-- what is held after k steps: few numbers over one denominator -/
def Hd (k : Nat) (held : List Rat) : Prop := ∃ C, 0 < C ∧ C ≤ 2 ^ (217 * k) ∧ ∀ q ∈ held, Over C (2 ^ (260 + 242 * k)) q
theorem Hd.nil : Hd 0 [] := ⟨1, by decide, by decide, fun q h => by cases h⟩
theorem Hd.qs {k : Nat} {held : List Rat} (h : Hd k held) : ∀ q ∈ held, Qs (261 + 242 * k) (217 * k + 1) q := by
  obtain ⟨C, h0, h1, h2⟩ := h
  intro q hq
  exact (h2 q hq).qs h0 (Nat.pow_lt_pow_right (by decide) (by omega)) (Nat.lt_of_le_of_lt h1 (Nat.pow_lt_pow_right (by decide) (by omega)))
theorem flat_len {w : Nat} : ∀ (g : List (List Rat)), (∀ r ∈ g, r.length = w) → g.flatten.length = g.length * w
  | [], _ => by simp
  | r :: g, h => by
    rw [List.flatten_cons, List.length_append, h r List.mem_cons_self, flat_len g fun s hs => h s (List.mem_cons_of_mem _ hs), List.length_cons, Nat.add_mul, Nat.one_mul, Nat.add_comm]
theorem Hd.step {here there k : Nat} {p : Stop} {held : List Rat} {x : Rat} (hp : StopOk here there p) (h5 : here ≤ 5) (t5 : there ≤ 5) (hx : Qs 21 7 x) (hh : Hd k held) : Hd (k + 1) (stepQ p held x) := by
  obtain ⟨C, c0, c1, c2⟩ := hh
  have hall : ∀ q ∈ p.on.flatten ++ p.inn, Qs 21 7 q := by
    intro q hq
    rcases List.mem_append.mp hq with hq | hq
    · obtain ⟨r, hr, hqr⟩ := List.mem_flatten.mp hq
      exact hp.qn r hr q hqr
    · exact hp.qi q hq
  obtain ⟨D0, D1, D2⟩ := over_all hall
  have hlen : (p.on.flatten ++ p.inn).length ≤ 30 := by
    rw [List.length_append, flat_len _ hp.wide, hp.tall, hp.inn]
    have := Nat.mul_le_mul t5 h5
    omega
  have D1' : dens (p.on.flatten ++ p.inn) ≤ 2 ^ 210 := Nat.le_trans D1 (Nat.pow_le_pow_right (by decide) (by omega))
  generalize dens (p.on.flatten ++ p.inn) = D at *
  have e0 : 0 < x.den := x.den_pos
  have e1 : x.den ≤ 2 ^ 7 := Nat.le_of_lt hx.den
  have e2 : Over x.den (2 ^ 21 * x.den) x := Over.of (Nat.dvd_refl _) e0 (Nat.le_of_lt hx.num)
  generalize x.den = E at *
  have DE : D * E ≤ 2 ^ 217 := by
    have := Nat.mul_le_mul D1' e1
    rw [← Nat.pow_add] at this
    exact this
  refine ⟨D * E * C, Nat.mul_pos (Nat.mul_pos D0 e0) c0, ?_, ?_⟩
  · have := Nat.mul_le_mul DE c1
    rw [← Nat.pow_add] at this
    refine Nat.le_trans this (Nat.pow_le_pow_right (by decide) (by omega))
  · intro q hq
    unfold stepQ at hq
    obtain ⟨z, hz, rfl⟩ := List.mem_map.mp hq
    obtain ⟨hz1, hz2⟩ := List.of_mem_zip (a := z.1) (b := z.2) hz
    obtain ⟨c, hc, hcz⟩ := List.mem_map.mp hz1
    have o1 : ∀ q ∈ c, Over D (2 ^ 21 * D) q := fun q hq => D2 q (List.mem_append_left _ (List.mem_flatten.mpr ⟨c, hc, hq⟩))
    have o2 := qdot_over D0 c0 c held o1 c2
    rw [hcz, hp.wide c hc] at o2
    have o3 := (o2.scale (Nat.mul_pos D0 c0) e0)
    have o4 := (Over.mul (D2 z.2 (List.mem_append_right _ hz2)) e2 D0 e0).scale (Nat.mul_pos D0 e0) c0
    have eq : D * C * E = D * E * C := Nat.mul_right_comm _ _ _
    rw [eq] at o3
    refine (o3.add o4).le ?_
    have b1 : here * (2 ^ 21 * D * 2 ^ (260 + 242 * k)) * E ≤ 2 ^ (501 + 242 * k) := by
      have : here * (2 ^ 21 * D * 2 ^ (260 + 242 * k)) * E = here * (2 ^ 21 * (D * E) * 2 ^ (260 + 242 * k)) := by
        simp only [Nat.mul_assoc, Nat.mul_comm, Nat.mul_left_comm]
      rw [this]
      have h8 : here ≤ 2 ^ 3 := by omega
      have := Nat.mul_le_mul h8 (Nat.mul_le_mul_right (2 ^ (260 + 242 * k)) (Nat.mul_le_mul_left (2 ^ 21) DE))
      rw [← Nat.pow_add, ← Nat.pow_add, ← Nat.pow_add] at this
      exact Nat.le_trans this (Nat.pow_le_pow_right (by decide) (by omega))
    have b2 : 2 ^ 21 * D * (2 ^ 21 * E) * C ≤ 2 ^ (501 + 242 * k) := by
      have : 2 ^ 21 * D * (2 ^ 21 * E) * C = 2 ^ 21 * (2 ^ 21 * (D * E)) * C := by
        simp only [Nat.mul_assoc, Nat.mul_comm, Nat.mul_left_comm]
      rw [this]
      have := Nat.mul_le_mul (Nat.mul_le_mul_left (2 ^ 21) (Nat.mul_le_mul_left (2 ^ 21) DE)) c1
      rw [← Nat.pow_add, ← Nat.pow_add, ← Nat.pow_add] at this
      exact Nat.le_trans this (Nat.pow_le_pow_right (by decide) (by omega))
    have e : 260 + 242 * (k + 1) = (501 + 242 * k) + 1 := by omega
    have e3 : (2 : Nat) ^ (260 + 242 * (k + 1)) = 2 ^ (501 + 242 * k) + 2 ^ (501 + 242 * k) := by rw [e]; exact pow_dbl _
    rw [e3]
    exact Nat.add_le_add b1 b2
end Mir
/-! The law's own walk through a carrier. -/
namespace Mir
open PySem L2 ML
def encCar (c : List Stop) : D := .tuple (c.map encStop)
def ChainOk : Nat → List Stop → Prop
  | _, [] => True
  | here, p :: c => here ≤ 5 ∧ ∃ there, there ≤ 5 ∧ StopOk here there p ∧ ChainOk there c
/-- what comes out of a carrier -/
def walkQ : List (Stop × Rat) → List Rat → List Rat
  | [], _ => []
  | z :: c, held => qdot z.1.out held :: walkQ c (stepQ z.1 held z.2)
end Mir
/-! The program looks at a carrier that is one. -/
namespace Mir
open PySem L2 ML
theorem Fine.enumT {e : ME} {Q : List D → ME → Prop} {a : M (List D)} (h : Fine (a e) fun ds e1 => ∃ x xs, ds = [x] ∧ dItems x = some xs ∧ Q (enumD xs) e1) : Fine (mEnum a e) Q := by
  refine Fine.bnd (h.imp fun ds e1 h => ?_)
  obtain ⟨x, xs, rfl, h1, q⟩ := h
  dsimp only
  rw [h1]
  exact Fine.ret q
/-- what goes in at the end -/
def ends : Nat → List Stop → Nat
  | k, [] => k
  | _, p :: c => ends p.inn.length c
theorem enum_map {α : Type} (en : α → D) (c : List α) : enumD (c.map en) = ((List.range c.length).zip c).map fun z => PyData.tuple [.int (z.1 : Int), en z.2] := by
  unfold enumD
  refine List.ext_getElem (by simp) fun i h1 h2 => ?_
  simp only [List.length_map, List.length_range] at h1
  simp [h1]
end Mir
/-! The program carries a row. -/
namespace Mir
open PySem L2 ML
theorem Fine.star {e : ME} {Q : List D → ME → Prop} {f : M D} {g : M (List D)} (h : Fine (f e) fun d e1 => ∃ xs, dItems d = some xs ∧ Fine (g e1) fun ys e2 => Q (xs ++ ys) e2) : Fine (mStar f g e) Q := by
  refine Fine.bnd (h.imp fun d e1 h => ?_)
  obtain ⟨xs, h1, h2⟩ := h
  rw [h1]
  refine Fine.bnd (Fine.opt rfl ?_)
  exact Fine.bnd (h2.imp fun ys e2 q => Fine.ret q)
end Mir
/-! More rules: three names at once, slots that are only read from here on, slices, lists of one's own. -/
namespace Mir
open PySem L2 ML LA
theorem Fine.par3 {e : ME} {Q : Fl → ME → Prop} {i j l : Nat} {f : M (List D)} (h : Fine (f e) fun ds e1 => ∃ a b c, ds = [a, b, c] ∧ i < e1.length ∧ j < e1.length ∧ l < e1.length ∧ Q .nx (((e1.set i (some a)).set j (some b)).set l (some c))) : Fine (mPar3 i j l f e) Q :=
  Fine.bnd (h.imp fun ds e1 ⟨a, b, c, hd, h1, h2, h3, q⟩ => Fine.bnd (by
    subst hd
    unfold put3
    dsimp only
    rw [if_pos (decide_eq_true h1), if_pos (decide_eq_true h2), if_pos (decide_eq_true h3)]
    exact ⟨_, _, rfl, Fine.ret q⟩))
theorem ex_par3 {ds : List D} {a b c : D} {P : D → D → D → Prop} (h : ds = [a, b, c]) (p : P a b c) : ∃ a b c, ds = [a, b, c] ∧ P a b c := ⟨a, b, c, h, p⟩
theorem Fine.sw {e : ME} {Q : Fl → ME → Prop} {i : Nat} {f : M Fl} {ds : List D} (hs : e[i]? = some (some (.list ds))) (h : Fine (f e) fun fl e1 => ∃ d, fl = .rt d ∧ Q (.rt d) e1) : Fine (mSw i f e) Q := by
  unfold mSw
  rw [slotL_of hs]
  obtain ⟨fl, e1, h1, d, rfl, q⟩ := h.ex
  rw [if_pos (show (some ds).isSome = true from rfl), h1]
  exact ⟨_, _, rfl, q⟩
theorem Fine.listOf {e : ME} {Q : D → ME → Prop} {f : M D} (h : Fine (f e) fun d e1 => ∃ xs, dItems d = some xs ∧ Q (.list xs) e1) : Fine (mListOf f e) Q :=
  Fine.bnd (h.imp fun d e1 ⟨xs, h1, q⟩ => Fine.bnd (Fine.opt h1 (Fine.ret q)))
theorem cut_from {xs : List D} {k : Nat} (h : k ≤ xs.length) : cutD xs (some (k : Int)) none = xs.drop k := by
  unfold cutD
  rw [HT.sIx_nat, Nat.min_eq_left h]
  refine List.take_of_length_le ?_
  rw [List.length_drop]
  exact Nat.le_refl _
theorem cut_upto {xs : List D} {k : Nat} (h : k ≤ xs.length) : cutD xs none (some (k : Int)) = xs.take k := by
  unfold cutD
  rw [HT.sIx_nat, Nat.min_eq_left h]
  simp [HT.sIx]
theorem cut_tail {x : D} {xs : List D} : cutD (x :: xs) (some 1) none = xs := cut_from (xs := x :: xs) (k := 1) (by simp)
theorem addT {xs ys : List D} (h : xs.length + ys.length ≤ 100000) : dAdd (.tuple xs) (.tuple ys) = some (.tuple (xs ++ ys)) := by
  show (if fits (xs.length + ys.length) = true then some (PyData.tuple (xs ++ ys)) else none) = _
  rw [if_pos (show fits _ = true from decide_eq_true h)]
theorem addL {xs ys : List D} (h : xs.length + ys.length ≤ 100000) : dAdd (.list xs) (.list ys) = some (.list (xs ++ ys)) := by
  show (if fits (xs.length + ys.length) = true then some (PyData.list (xs ++ ys)) else none) = _
  rw [if_pos (show fits _ = true from decide_eq_true h)]
theorem mulTup {xs : List D} {k : Nat} (h : xs.length ≤ 1000) (hk : k ≤ 1000) : dMul (.tuple xs) (.int (k : Int)) = some (.tuple (List.replicate k xs).flatten) := by
  show (if small xs.length = true then (if decide ((k : Int).natAbs ≤ 1000) = true then some (PyData.tuple (List.replicate (k : Int).toNat xs).flatten) else none) else none) = _
  rw [if_pos (show small _ = true from decide_eq_true h), if_pos (decide_eq_true (by omega)), Int.toNat_natCast]
section
variable {P : D → Prop} {r s : List Rat} {x : Rat} {g g2 : List (List Rat)} {k : Nat} {xs ys : List D}
theorem ex_addQ (h : r.length ≤ 1000) (p : P (encRow (r ++ [x]))) : ∃ z, dAdd (encRow r) (.tuple [encQ x]) = some z ∧ P z :=
  ⟨_, addT (by simp; omega), by unfold encRow at p; rw [List.map_append] at p; exact p⟩
theorem ex_addR (h : r.length + s.length ≤ 1000) (p : P (encRow (r ++ s))) : ∃ z, dAdd (encRow r) (encRow s) = some z ∧ P z :=
  ⟨_, addT (by simp; omega), by unfold encRow at p; rw [List.map_append] at p; exact p⟩
theorem ex_add1 (h : r.length ≤ 1000) (p : P (encRow (r ++ [1]))) : ∃ z, dAdd (encRow r) (.tuple [.tuple [.int 1, .int 1]]) = some z ∧ P z := ex_addQ (x := 1) h p
theorem ex_addRT (h : g.length ≤ 1000) (p : P (encTab (r :: g))) : ∃ z, dAdd (.tuple [encRow r]) (encTab g) = some z ∧ P z :=
  ⟨_, addT (by simp; omega), p⟩
theorem ex_addTR (h : g.length ≤ 1000) (p : P (encTab (g ++ [r]))) : ∃ z, dAdd (encTab g) (.tuple [encRow r]) = some z ∧ P z :=
  ⟨_, addT (by simp; omega), by unfold encTab at p; rw [List.map_append] at p; exact p⟩
theorem ex_addTT (h : g.length + g2.length ≤ 1000) (p : P (encTab (g ++ g2))) : ∃ z, dAdd (encTab g) (encTab g2) = some z ∧ P z :=
  ⟨_, addT (by simp; omega), by unfold encTab at p; rw [List.map_append] at p; exact p⟩
theorem ex_rep0 (h : k ≤ 1000) (p : P (encRow (List.replicate k 0))) : ∃ z, dMul (.tuple [.tuple [.int 0, .int 1]]) (.int (k : Int)) = some z ∧ P z := by
  refine ⟨_, mulTup (by simp) h, ?_⟩
  have e : PyData.tuple (List.replicate k [PyData.tuple [.int 0, .int 1]]).flatten = encRow (List.replicate k 0) := by
    unfold encRow
    rw [List.map_replicate, show [PyData.tuple [.int 0, .int 1]] = [encQ 0] from rfl, List.flatten_replicate_singleton]
  rw [e]
  exact p
theorem ex_addT (h : xs.length + ys.length ≤ 1000) (p : P (.tuple (xs ++ ys))) : ∃ z, dAdd (.tuple xs) (.tuple ys) = some z ∧ P z := ⟨_, addT (by omega), p⟩
theorem ex_addL (h : xs.length + ys.length ≤ 1000) (p : P (.list (xs ++ ys))) : ∃ z, dAdd (.list xs) (.list ys) = some z ∧ P z := ⟨_, addL (by omega), p⟩
end
theorem eq_ifN (i j : Nat) : (if false = true then !(PyData.int (i : Int)).eqv (.int (j : Int)) else (PyData.int (i : Int)).eqv (.int (j : Int))) = decide (i = j) := by
  rw [eq_if]
  by_cases h : i = j
  · simp [h]
  · rw [decide_eq_false h, decide_eq_false (by omega)]
theorem ne_ifN (i j : Nat) : (if true = true then !(PyData.int (i : Int)).eqv (.int (j : Int)) else (PyData.int (i : Int)).eqv (.int (j : Int))) = decide (i ≠ j) := by
  rw [ne_if]
  by_cases h : i = j
  · simp [h]
  · rw [decide_eq_true h, decide_eq_true (by omega)]
section
variable {P : D → Prop} {r : List Rat} {g : List (List Rat)} {xs : List D}
theorem ex_tupL (p : P (.tuple xs)) : ∃ z, gTuple [.list xs] = some z ∧ P z := ⟨_, rfl, p⟩
theorem ex_tupT (p : P (.tuple xs)) : ∃ z, gTuple [.tuple xs] = some z ∧ P z := ⟨_, rfl, p⟩
theorem ex_tupR (p : P (encRow r)) : ∃ z, gTuple [encRow r] = some z ∧ P z := ⟨_, rfl, p⟩
theorem ex_tupG (p : P (encTab g)) : ∃ z, gTuple [encTab g] = some z ∧ P z := ⟨_, rfl, p⟩
theorem ex_lenL (p : P (.int (xs.length : Int))) : ∃ z, gLen [.list xs] = some z ∧ P z := ⟨_, rfl, p⟩
theorem ex_lenT (p : P (.int (xs.length : Int))) : ∃ z, gLen [.tuple xs] = some z ∧ P z := ⟨_, rfl, p⟩
theorem ex_lenR (p : P (.int (r.length : Int))) : ∃ z, gLen [encRow r] = some z ∧ P z := ⟨.int (r.length : Int), by simp [gLen, encRow], p⟩
theorem ex_lenG (p : P (.int (g.length : Int))) : ∃ z, gLen [encTab g] = some z ∧ P z := ⟨.int (g.length : Int), by simp [gLen, encTab], p⟩
end
theorem Fine.range1N {Q : List D → ME → Prop} {e : ME} {a : M (List D)} (h : Fine (a e) fun ds e1 => ∃ n : Nat, ds = [.int (n : Int)] ∧ n < 2 ^ 60 ∧ Q ((List.range n).map fun (i : Nat) => PyData.int (i : Int)) e1) : Fine (mRange1 a e) Q :=
  Fine.range1 (h.imp fun ds e1 ⟨n, h1, h2, q⟩ => ⟨n, h1, by omega, by rw [rngD_map]; exact q⟩)
end Mir
/-! The columns that come to each place. -/
namespace Mir
open PySem L2 ML
theorem qs_zero : Qs 21 7 (0 : Rat) := ⟨by decide, by decide⟩
theorem step_zero {here there : Nat} {p : Stop} (hp : StopOk here there p) (col : List Rat) : stepQ p col 0 = p.on.map fun r => qdot r col := by
  unfold stepQ
  have hl : (p.on.map fun c => qdot c col).length = p.inn.length := by rw [List.length_map, hp.tall, hp.inn]
  generalize (p.on.map fun c => qdot c col) = A at *
  generalize p.inn = I at *
  clear hp
  induction A generalizing I with
  | nil => rfl
  | cons a A ih =>
    cases I with
    | nil => cases hl
    | cons i I =>
      have := ih I (by simpa using hl)
      have e0 : a + i * 0 = a := by rw [Rat.mul_zero, Rat.add_zero]
      exact (congrArg (List.cons (a + i * 0)) this).trans (by rw [e0])
theorem hd_on {here there k : Nat} {p : Stop} {col : List Rat} (hp : StopOk here there p) (h5 : here ≤ 5) (t5 : there ≤ 5) (hh : Hd k col) : Hd (k + 1) (p.on.map fun r => qdot r col) := by
  rw [← step_zero hp]
  exact hh.step hp h5 t5 qs_zero
theorem hd_in {here there : Nat} {p : Stop} (hp : StopOk here there p) (t5 : there ≤ 5) (k : Nat) : Hd (k + 1) p.inn := by
  obtain ⟨D0, D1, D2⟩ := over_all hp.qi
  have D1' : dens p.inn ≤ 2 ^ 35 := Nat.le_trans D1 (Nat.pow_le_pow_right (by decide) (by rw [hp.inn]; omega))
  refine ⟨dens p.inn, D0, Nat.le_trans D1' (Nat.pow_le_pow_right (by decide) (by omega)), fun q hq => (D2 q hq).le ?_⟩
  have := Nat.mul_le_mul_left (2 ^ 21) D1'
  rw [← Nat.pow_add] at this
  exact Nat.le_trans this (Nat.pow_le_pow_right (by decide) (by omega))
/-- the columns of what was handed on so far -/
def stepC (p : Stop) (cols : List (List Rat)) : List (List Rat) := (cols.map fun col => p.on.map fun r => qdot r col) ++ [p.inn]
def colsQ : List Stop → List (List Rat) → List (List (List Rat))
  | [], _ => []
  | p :: c, cols => cols :: colsQ c (stepC p cols)
structure ColsOk (here k : Nat) (cols : List (List Rat)) : Prop where
  wide : ∀ c ∈ cols, c.length = here
  hd : ∀ c ∈ cols, Hd k c
theorem ColsOk.step {here there k : Nat} {p : Stop} {cols : List (List Rat)} (h : ColsOk here k cols) (hp : StopOk here there p) (h5 : here ≤ 5) (t5 : there ≤ 5) : ColsOk there (k + 1) (stepC p cols) := by
  refine ⟨fun c hc => ?_, fun c hc => ?_⟩
  · rcases List.mem_append.mp hc with hc | hc
    · obtain ⟨d, hd, rfl⟩ := List.mem_map.mp hc
      rw [List.length_map]; exact hp.tall
    · rw [List.mem_singleton.mp hc]; exact hp.inn
  · rcases List.mem_append.mp hc with hc | hc
    · obtain ⟨d, hd, rfl⟩ := List.mem_map.mp hc
      exact hd_on hp h5 t5 (h.hd d hd)
    · rw [List.mem_singleton.mp hc]; exact hd_in hp t5 k
end Mir
/-! The table that a carrier carries. -/
namespace Mir
open PySem L2 ML
def gridQ : List Stop → List (List Rat) → List (List Rat)
  | [], _ => []
  | p :: c, cols => ((cols.map fun col => qdot col p.out) ++ List.replicate (c.length + 1) 0) :: gridQ c (stepC p cols)
def trail : Nat → List Stop → List (List Rat) → List (Nat × List (List Rat))
  | _, [], _ => []
  | k, p :: c, cols => (k, cols) :: trail (k + 1) c (stepC p cols)
end Mir
/-! The carried table times a line is what the walk tells. -/
namespace Mir
open PySem L2 ML
/-- a sum of columns -/
def comb (here : Nat) : List (List Rat) → List Rat → List Rat
  | c :: cols, x :: xs => (c.zip (comb here cols xs)).map fun z => z.1 * x + z.2
  | _, _ => List.replicate here 0
end Mir
/-! The carried table times a line is what the walk tells: the end of it. -/
namespace Mir
open PySem L2 ML
end Mir
/-! Carriers that the law draws: places one after another. -/
namespace Mir
open PySem L2 ML
/-- places that take `here` numbers at first and hand `to` on at last -/
def ChainTo (to : Nat) : Nat → List Stop → Prop
  | here, [] => here = to
  | here, p :: c => here ≤ 5 ∧ ∃ there, there ≤ 5 ∧ StopOk here there p ∧ ChainTo to there c
theorem ChainTo.ok {to : Nat} : ∀ {here : Nat} {c : List Stop}, ChainTo to here c → ChainOk here c
  | _, [], _ => trivial
  | _, _ :: _, ⟨h5, there, t5, hp, h⟩ => ⟨h5, there, t5, hp, h.ok⟩
theorem ChainTo.ends {to : Nat} : ∀ {here : Nat} {c : List Stop}, ChainTo to here c → ends here c = to
  | _, [], h => h
  | _, p :: c, ⟨h5, there, t5, hp, h⟩ => by
    unfold Mir.ends
    rw [hp.inn]
    exact h.ends
end Mir
local macro_rules | `(tactic| walk_at "n") => `(tactic| first
  | walk_at "s"
  | with_reducible apply Mir.Fine.par3
  | ((with_reducible apply Mir.Fine.sw); (focus rfl))
  | with_reducible apply Mir.Fine.listOf
  | with_reducible apply Mir.Fine.star
  | ((with_reducible apply Mir.ex_par3); (focus rfl); (try dsimp only [List.set_cons_zero, List.set_cons_succ]))
  | ((with_reducible apply Mir.ex_slot); (focus rfl))
  | with_reducible apply Mir.ex_ix0
  | with_reducible apply Mir.ex_ixt0
  | ((with_reducible apply Mir.fits_p); (focus rfl))
  | with_reducible apply Mir.ex_bool
  | ((with_reducible apply Mir.ex_add1); (focus (first | assumption | omega | (simp; omega) | (simp; done))))
  | ((with_reducible apply Mir.ex_addQ); (focus (first | assumption | omega | (simp; omega) | (simp; done))))
  | ((with_reducible apply Mir.ex_addR); (focus (first | assumption | omega | (simp; omega) | (simp; done))))
  | ((with_reducible apply Mir.ex_addRT); (focus (first | assumption | omega | (simp; omega) | (simp; done))))
  | ((with_reducible apply Mir.ex_addTR); (focus (first | assumption | omega | (simp; omega) | (simp; done))))
  | ((with_reducible apply Mir.ex_addTT); (focus (first | assumption | omega | (simp; omega) | (simp; done))))
  | ((with_reducible apply Mir.ex_rep0); (focus (first | assumption | omega | (simp; omega) | (simp; done))))
  | ((with_reducible apply Mir.ex_addT); (focus (first | assumption | omega | (simp; omega) | (simp; done))))
  | ((with_reducible apply Mir.ex_addL); (focus (first | assumption | omega | (simp; omega) | (simp; done))))
  | with_reducible apply Mir.ex_tupR
  | with_reducible apply Mir.ex_tupG
  | with_reducible apply Mir.ex_tupL
  | with_reducible apply Mir.ex_tupT
  | with_reducible apply Mir.ex_lenR
  | with_reducible apply Mir.ex_lenG
  | with_reducible apply Mir.ex_lenL
  | with_reducible apply Mir.ex_lenT
  | ((with_reducible apply Mir.ex_put); (focus (first | assumption | omega | (simp; omega))))
  | ((with_reducible apply Mir.ex_ixzt); (focus (first | assumption | omega | (simp; omega))))
  | ((with_reducible apply Mir.ex_ixz); (focus (first | assumption | omega | (simp; omega))))
  | ((with_reducible apply Mir.ex_ixrow); (focus (first | assumption | omega | (simp; omega))))
  | ((with_reducible apply Mir.ex_ixtab); (focus (first | assumption | omega | (simp; omega)))))
local macro_rules | `(tactic| walk_at "m") => `(tactic| repeat (walk_at "n"))
/-! The law's own rank as a number; a drawn place of a carrier. -/
namespace Mir
open PySem L2 ML LA
theorem Qs.qb {a b c : Nat} {q : Rat} (h : Qs a b q) (h1 : a ≤ c) (h2 : b ≤ c) : Qb c q := ⟨(h.mono h1 h2).num, (h.mono h1 h2).den⟩
end Mir
/-! Determinants. -/
namespace LA
def sg (j : Nat) : Rat := if j % 2 = 0 then 1 else -1
theorem sg_zero : sg 0 = 1 := rfl
theorem sg_succ (j : Nat) : sg (j + 1) = - sg j := by
  unfold sg
  rcases Nat.mod_two_eq_zero_or_one j with h | h
  · rw [if_pos h, if_neg (by omega)]
  · rw [if_neg (show ¬ j % 2 = 0 by omega), if_pos (show (j + 1) % 2 = 0 by omega)]; grind
theorem sg_sq (j : Nat) : sg j * sg j = 1 := by
  unfold sg
  split <;> grind
theorem sg_add (i j : Nat) : sg (i + j) = sg i * sg j := by
  induction j with
  | zero => rw [Nat.add_zero, sg_zero]; grind
  | succ j ih => rw [← Nat.add_assoc, sg_succ, ih, sg_succ]; grind
/-- the determinant, along the first row -/
def det : Nat → Mx → Rat
  | 0, _ => 1
  | n + 1, A => sm (n + 1) fun j => sg j * A 0 j * det n fun i k => A (i + 1) (skip j k)
theorem det_congr : ∀ (n : Nat) {A B : Mx}, Eqm n n A B → det n A = det n B
  | 0, _, _, _ => rfl
  | n + 1, A, B, h => sm_congr fun j hj => by
    rw [h 0 (by omega) j hj, det_congr n fun i hi k hk => h (i + 1) (by omega) (skip j k) (skip_lt hk)]
/-- a row in the place of another -/
def up (A : Mx) (r : Nat) (x : Nat → Rat) : Mx := fun i j => if i = r then x j else A i j
theorem up_self (A : Mx) (r : Nat) : up A r (A r) = A := by
  funext i j
  unfold up
  by_cases h : i = r
  · rw [if_pos h, h]
  · rw [if_neg h]
theorem up_at (A : Mx) (r : Nat) (x : Nat → Rat) (j : Nat) : up A r x r j = x j := if_pos rfl
theorem up_ne (A : Mx) {r i : Nat} (x : Nat → Rat) (h : i ≠ r) (j : Nat) : up A r x i j = A i j := if_neg h
theorem up_comm (A : Mx) {r s : Nat} (x y : Nat → Rat) (h : r ≠ s) : up (up A r x) s y = up (up A s y) r x := by
  funext i j
  unfold up
  by_cases h1 : i = r
  · by_cases h2 : i = s
    · omega
    · rw [if_neg h2, if_pos h1, if_pos h1]
  · by_cases h2 : i = s
    · rw [if_pos h2, if_neg h1, if_pos h2]
    · rw [if_neg h2, if_neg h1, if_neg h1, if_neg h2]
/-- what determinants are made of -/
structure Alt (n : Nat) (F : Mx → Rat) : Prop where
  congr : ∀ A B, Eqm n n A B → F A = F B
  add : ∀ A r x y, r < n → F (up A r fun j => x j + y j) = F (up A r x) + F (up A r y)
  mul : ∀ A r c x, r < n → F (up A r fun j => c * x j) = c * F (up A r x)
  swap : ∀ A r, r + 1 < n → F (up (up A r (A (r + 1))) (r + 1) (A r)) = - F A
theorem Alt.zero {n : Nat} {F : Mx → Rat} (h : Alt n F) {A : Mx} : ∀ (d r : Nat), r + d + 1 < n → (∀ j, j < n → A r j = A (r + d + 1) j) → F A = 0
  | 0, r, hr, e => by
    have h1 := h.swap A r hr
    have h2 : F (up (up A r (A (r + 1))) (r + 1) (A r)) = F A := h.congr _ _ fun i hi j hj => by
      by_cases c : i = r + 1
      · rw [c, up_at]; exact e j hj
      · rw [up_ne _ _ c]
        by_cases c2 : i = r
        · rw [c2, up_at]; exact (e j hj).symm
        · rw [up_ne _ _ c2]
    rw [h2] at h1
    grind
  | d + 1, r, hr, e => by
    have h1 := h.swap A (r + d + 1) (by omega)
    have h2 : F (up (up A (r + d + 1) (A (r + d + 1 + 1))) (r + d + 1 + 1) (A (r + d + 1))) = 0 := Alt.zero h d r (by omega) fun j hj => by
      rw [up_ne _ _ (by omega), up_ne _ _ (by omega), up_ne _ _ (by omega), up_at]
      exact e j hj
    rw [h2] at h1
    grind
theorem Alt.zero' {n : Nat} {F : Mx → Rat} (h : Alt n F) {A : Mx} {r s : Nat} (hr : r < n) (hs : s < n) (hrs : r ≠ s) (e : ∀ j, j < n → A r j = A s j) : F A = 0 := by
  rcases Nat.lt_or_gt_of_ne hrs with c | c
  · exact h.zero (s - r - 1) r (by omega) fun j hj => by rw [show r + (s - r - 1) + 1 = s by omega]; exact e j hj
  · exact h.zero (r - s - 1) s (by omega) fun j hj => by rw [show s + (r - s - 1) + 1 = r by omega]; exact (e j hj).symm
/-- a multiple of another row more -/
theorem Alt.more {n : Nat} {F : Mx → Rat} (h : Alt n F) (A : Mx) {r s : Nat} (hr : r < n) (hs : s < n) (hrs : r ≠ s) (x : Nat → Rat) (c : Rat) : F (up A r fun j => x j + c * A s j) = F (up A r x) := by
  rw [h.add A r x (fun j => c * A s j) hr, h.mul A r c (A s) hr, h.zero' (A := up A r (A s)) hr hs hrs fun j _ => by rw [up_at, up_ne _ _ (Ne.symm hrs)]]
  grind
theorem Alt.sum {n : Nat} {F : Mx → Rat} (h : Alt n F) (A : Mx) {r : Nat} (hr : r < n) (c : Nat → Rat) (x : Nat → Nat → Rat) : ∀ m, F (up A r fun j => sm m fun t => c t * x t j) = sm m fun t => c t * F (up A r (x t))
  | 0 => by
    have := h.mul A r 0 (fun _ => 0) hr
    have e : (fun _ : Nat => (0 : Rat) * 0) = fun _ => 0 := by funext _; grind
    rw [e] at this
    show F (up A r fun _ => 0) = 0
    rw [this]; grind
  | m + 1 => by
    show F (up A r fun j => sm m (fun t => c t * x t j) + c m * x m j) = sm m (fun t => c t * F (up A r (x t))) + c m * F (up A r (x m))
    rw [h.add A r _ _ hr, h.sum A hr c x m, h.mul A r _ _ hr]
/-- a sum of all rows in the place of one -/
theorem Alt.cramer {n : Nat} {F : Mx → Rat} (h : Alt n F) (A : Mx) {r : Nat} (hr : r < n) (y : Nat → Rat) : F (up A r fun j => sm n fun t => y t * A t j) = y r * F A := by
  rw [h.sum A hr y (fun t => A t) n, sm_one hr fun t ht c => ?_, up_self]
  rw [h.zero' (A := up A r (A t)) hr ht (Ne.symm c) fun j _ => by rw [up_at, up_ne _ _ c]]
  grind
/-! the determinant is of that kind -/
theorem minor_up {A : Mx} {r : Nat} {x : Nat → Rat} {j : Nat} : (fun i k => up A (r + 1) x (i + 1) (skip j k)) = up (fun i k => A (i + 1) (skip j k)) r fun k => x (skip j k) := by
  funext i k
  unfold up
  by_cases h : i = r
  · rw [if_pos (by omega), if_pos h]
  · rw [if_neg (by omega), if_neg h]
theorem det_add : ∀ (n : Nat) (A : Mx) (r : Nat) (x y : Nat → Rat), r < n → det n (up A r fun j => x j + y j) = det n (up A r x) + det n (up A r y)
  | n + 1, A, 0, x, y, _ => by
    show sm (n + 1) _ = sm (n + 1) _ + sm (n + 1) _
    rw [← sm_add]
    refine sm_congr fun j hj => ?_
    have e : ∀ z : Nat → Rat, (fun i k => up A 0 z (i + 1) (skip j k)) = fun i k => A (i + 1) (skip j k) := fun z => by
      funext i k
      exact up_ne _ _ (by omega) _
    rw [e, e, e, up_at, up_at, up_at]
    grind
  | n + 1, A, r + 1, x, y, h => by
    show sm (n + 1) _ = sm (n + 1) _ + sm (n + 1) _
    rw [← sm_add]
    refine sm_congr fun j hj => ?_
    rw [minor_up, minor_up, minor_up, up_ne _ _ (by omega), up_ne _ _ (by omega), up_ne _ _ (by omega), det_add n _ r _ _ (by omega)]
    grind
theorem det_mul' : ∀ (n : Nat) (A : Mx) (r : Nat) (c : Rat) (x : Nat → Rat), r < n → det n (up A r fun j => c * x j) = c * det n (up A r x)
  | n + 1, A, 0, c, x, _ => by
    show sm (n + 1) _ = c * sm (n + 1) _
    rw [← sm_mul]
    refine sm_congr fun j hj => ?_
    have e : ∀ z : Nat → Rat, (fun i k => up A 0 z (i + 1) (skip j k)) = fun i k => A (i + 1) (skip j k) := fun z => by
      funext i k
      exact up_ne _ _ (by omega) _
    rw [e, e, up_at, up_at]
    grind
  | n + 1, A, r + 1, c, x, h => by
    show sm (n + 1) _ = c * sm (n + 1) _
    rw [← sm_mul]
    refine sm_congr fun j hj => ?_
    rw [minor_up, minor_up, up_ne _ _ (by omega), up_ne _ _ (by omega), det_mul' n _ r _ _ (by omega)]
    grind
/-- pairs of unlike places, taken together -/
theorem sm_pairs (N : Nat) (f : Nat → Nat → Rat) : sm (N + 1) (fun j => sm N fun k => f j k) = sm N fun j => sm N fun k => if j ≤ k then f j k + f (k + 1) j else 0 := by
  have e1 : sm (N + 1) (fun j => sm N fun k => f j k) = sm (N + 1) (fun j => sm N fun k => if j ≤ k then f j k else 0) + sm (N + 1) (fun j => sm N fun k => if j ≤ k then 0 else f j k) := by
    rw [← sm_add]
    refine sm_congr fun j _ => ?_
    rw [← sm_add]
    refine sm_congr fun k _ => ?_
    by_cases h : j ≤ k
    · rw [if_pos h, if_pos h]; grind
    · rw [if_neg h, if_neg h]; grind
  have e2 : sm (N + 1) (fun j => sm N fun k => if j ≤ k then f j k else 0) = sm N fun j => sm N fun k => if j ≤ k then f j k else 0 := by
    show sm N _ + sm N _ = _
    rw [sm_zero (f := fun k => if N ≤ k then f N k else 0) fun k hk => if_neg (by omega)]
    grind
  have e3 : sm (N + 1) (fun j => sm N fun k => if j ≤ k then 0 else f j k) = sm N fun j => sm N fun k => if j ≤ k then f (k + 1) j else 0 := by
    rw [sm_front, sm_zero (f := fun k => if 0 ≤ k then 0 else f 0 k) fun k hk => if_pos (by omega), sm_swap]
    rw [Rat.zero_add]
    refine sm_congr fun j _ => sm_congr fun k _ => ?_
    by_cases h : j ≤ k
    · rw [if_pos h, if_neg (by omega)]
    · rw [if_neg h, if_pos (by omega)]
  rw [e1, e2, e3, ← sm_add]
  refine sm_congr fun j _ => ?_
  rw [← sm_add]
  refine sm_congr fun k _ => ?_
  by_cases h : j ≤ k
  · rw [if_pos h, if_pos h, if_pos h]
  · rw [if_neg h, if_neg h, if_neg h]; grind
theorem skip_skip {j k : Nat} (h : j ≤ k) (l : Nat) : skip j (skip k l) = skip (k + 1) (skip j l) := by
  unfold skip
  repeat' split
  all_goals omega
/-- both first rows at once -/
theorem det_two (n : Nat) (A : Mx) : det (n + 2) A = sm (n + 1) fun j => sm (n + 1) fun k => if j ≤ k then sg j * sg k * (A 0 j * A 1 (k + 1) - A 0 (k + 1) * A 1 j) * det n (fun i l => A (i + 2) (skip j (skip k l))) else 0 := by
  have e : det (n + 2) A = sm (n + 2) fun j => sm (n + 1) fun k => sg j * A 0 j * (sg k * A 1 (skip j k) * det n (fun i l => A (i + 2) (skip j (skip k l)))) := sm_congr fun j _ => by
    rw [sm_mul]
    rfl
  rw [e, sm_pairs]
  refine sm_congr fun j _ => sm_congr fun k _ => ?_
  by_cases h : j ≤ k
  · rw [if_pos h, if_pos h]
    have e1 : skip j k = k + 1 := if_neg (by omega)
    have e2 : skip (k + 1) j = j := if_pos (by omega)
    have e3 : (fun i l => A (i + 2) (skip (k + 1) (skip j l))) = fun i l => A (i + 2) (skip j (skip k l)) := by
      funext i l
      rw [skip_skip h]
    rw [e1, e2, e3, sg_succ]
    grind
  · rw [if_neg h, if_neg h]
theorem det_swap : ∀ (n : Nat) (A : Mx) (r : Nat), r + 1 < n → det n (up (up A r (A (r + 1))) (r + 1) (A r)) = - det n A
  | n + 2, A, 0, _ => by
    rw [det_two, det_two, ← sm_neg]
    refine sm_congr fun j _ => ?_
    rw [← sm_neg]
    refine sm_congr fun k _ => ?_
    by_cases h : j ≤ k
    · rw [if_pos h, if_pos h]
      have e : (fun i l => up (up A 0 (A (0 + 1))) (0 + 1) (A 0) (i + 2) (skip j (skip k l))) = fun i l => A (i + 2) (skip j (skip k l)) := by
        funext i l
        rw [up_ne _ _ (by omega), up_ne _ _ (by omega)]
      rw [e]
      have e1 : ∀ m, up (up A 0 (A (0 + 1))) (0 + 1) (A 0) 0 m = A 1 m := fun m => by rw [up_ne _ _ (by omega), up_at]
      have e2 : ∀ m, up (up A 0 (A (0 + 1))) (0 + 1) (A 0) 1 m = A 0 m := fun m => up_at _ _ _ _
      rw [e1, e1, e2, e2]
      grind
    · rw [if_neg h, if_neg h]; grind
  | n + 1, A, r + 1, h => by
    show sm (n + 1) _ = - sm (n + 1) _
    rw [← sm_neg]
    refine sm_congr fun j hj => ?_
    have e : (fun i k => up (up A (r + 1) (A (r + 1 + 1))) (r + 1 + 1) (A (r + 1)) (i + 1) (skip j k)) = up (up (fun i k => A (i + 1) (skip j k)) r ((fun i k => A (i + 1) (skip j k)) (r + 1))) (r + 1) ((fun i k => A (i + 1) (skip j k)) r) := by
      rw [minor_up, minor_up]
    rw [e, det_swap n _ r (by omega), up_ne _ _ (by omega), up_ne _ _ (by omega)]
    grind
theorem det_alt (n : Nat) : Alt n (det n) := ⟨fun _ _ h => det_congr n h, det_add n, det_mul' n, det_swap n⟩
end LA
/-! The determinant is the only one of its kind; products, tables turned over, inverses. -/
namespace LA
/-- two rows change places -/
def sw (A : Mx) (r s : Nat) : Mx := up (up A r (A s)) s (A r)
theorem Alt.swap' {n : Nat} {F : Mx → Rat} (h : Alt n F) (A : Mx) {r s : Nat} (hr : r < n) (hs : s < n) (hrs : r ≠ s) : F (sw A r s) = - F A := by
  have G : ∀ x y : Nat → Rat, F (up (up A r x) s y) + F (up (up A r y) s x) = 0 := fun x y => by
    have z : ∀ v : Nat → Rat, F (up (up A r v) s v) = 0 := fun v => h.zero' hr hs hrs fun j _ => by rw [up_ne _ _ hrs, up_at, up_at]
    have h1 := z fun j => x j + y j
    rw [h.add _ s _ _ hs, up_comm _ _ _ hrs, up_comm _ _ _ hrs, h.add _ r _ _ hr, h.add _ r _ _ hr, ← up_comm _ _ _ hrs, ← up_comm _ _ _ hrs, ← up_comm _ _ _ hrs, ← up_comm _ _ _ hrs, z x, z y] at h1
    grind
  have h2 := G (A s) (A r)
  have e : up (up A r (A r)) s (A s) = A := by rw [up_self, up_self]
  rw [e] at h2
  unfold sw
  grind
/-- multiples of the first row more, in all others -/
theorem Alt.clear {n : Nat} {F : Mx → Rat} (h : Alt n F) (A : Mx) (c : Nat → Rat) : ∀ m, m ≤ n → F (fun i k => if 0 < i ∧ i < m then A i k + c i * A 0 k else A i k) = F A
  | 0, _ => congrArg F (by funext i k; rw [if_neg (by omega)])
  | m + 1, hm => by
    by_cases h0 : m = 0
    · subst h0
      exact congrArg F (by funext i k; rw [if_neg (by omega)])
    · have ih := h.clear A c m (by omega)
      rw [← ih]
      have e : (fun i k => if 0 < i ∧ i < m + 1 then A i k + c i * A 0 k else A i k) = up (fun i k => if 0 < i ∧ i < m then A i k + c i * A 0 k else A i k) m fun k => A m k + c m * (fun i k => if 0 < i ∧ i < m then A i k + c i * A 0 k else A i k) 0 k := by
        funext i k
        by_cases hi : i = m
        · rw [hi, up_at, if_pos (by omega)]
          (try dsimp only)
          rw [if_neg (by omega)]
        · rw [up_ne _ _ hi]
          by_cases h2 : 0 < i ∧ i < m
          · rw [if_pos (by omega), if_pos h2]
          · rw [if_neg (by omega), if_neg h2]
      rw [e, h.more _ (by omega) (by omega) h0]
      have e2 : up (fun i k => if 0 < i ∧ i < m then A i k + c i * A 0 k else A i k) m (A m) = fun i k => if 0 < i ∧ i < m then A i k + c i * A 0 k else A i k := by
        funext i k
        by_cases hi : i = m
        · rw [hi, up_at, if_neg (by omega)]
        · rw [up_ne _ _ hi]
      rw [e2]
def unskip (j k : Nat) : Nat := if k < j then k else k - 1
theorem unskip_skip (j k : Nat) : unskip j (skip j k) = k := by
  unfold unskip skip
  repeat' split
  all_goals omega
theorem skip_unskip {j k : Nat} (h : k ≠ j) : skip j (unskip j k) = k := by
  unfold unskip skip
  repeat' split
  all_goals omega
theorem unskip_lt {j k n : Nat} (hj : j < n + 1) (h : k ≠ j) (hk : k < n + 1) : unskip j k < n := by unfold unskip; split <;> omega
/-- a table beside a unit row, its column empty -/
def emb (j : Nat) (B : Mx) : Mx := fun i k => if i = 0 then dl j k else if k = j then 0 else B (i - 1) (unskip j k)
theorem emb_up (j : Nat) (B : Mx) (r : Nat) (x : Nat → Rat) : emb j (up B r x) = up (emb j B) (r + 1) fun k => if k = j then 0 else x (unskip j k) := by
  funext i k
  unfold emb
  by_cases h0 : i = 0
  · rw [if_pos h0, up_ne _ _ (by omega), if_pos h0]
  · rw [if_neg h0]
    by_cases hr : i = r + 1
    · rw [hr, up_at]
      by_cases hk : k = j
      · rw [if_pos hk, if_pos hk]
      · rw [if_neg hk, if_neg hk, Nat.add_sub_cancel, up_at]
    · rw [up_ne _ _ hr, if_neg h0, up_ne _ _ (by omega)]
theorem emb_row (j : Nat) (B : Mx) (r : Nat) : emb j B (r + 1) = fun k => if k = j then 0 else B r (unskip j k) := by
  funext k
  unfold emb
  rw [if_neg (by omega), Nat.add_sub_cancel]
theorem Alt.emb {n : Nat} {F : Mx → Rat} (h : Alt (n + 1) F) {j : Nat} (hj : j < n + 1) : Alt n (fun B => F (LA.emb j B)) := by
  refine ⟨fun A B e => h.congr _ _ fun i hi k hk => ?_, fun A r x y hr => ?_, fun A r c x hr => ?_, fun A r hr => ?_⟩
  · unfold LA.emb
    by_cases h0 : i = 0
    · rw [if_pos h0, if_pos h0]
    · rw [if_neg h0, if_neg h0]
      by_cases hkj : k = j
      · rw [if_pos hkj, if_pos hkj]
      · rw [if_neg hkj, if_neg hkj]
        exact e (i - 1) (by omega) _ (unskip_lt hj hkj hk)
  · (try dsimp only)
    rw [emb_up, emb_up, emb_up, ← h.add _ _ _ _ (by omega)]
    congr 2
    funext k
    by_cases hkj : k = j
    · rw [if_pos hkj, if_pos hkj, if_pos hkj]; grind
    · rw [if_neg hkj, if_neg hkj, if_neg hkj]
  · (try dsimp only)
    rw [emb_up, emb_up, ← h.mul _ _ _ _ (by omega)]
    congr 2
    funext k
    by_cases hkj : k = j
    · rw [if_pos hkj, if_pos hkj]; grind
    · rw [if_neg hkj, if_neg hkj]
  · (try dsimp only)
    rw [← h.swap (LA.emb j A) (r + 1) (by omega), emb_up, emb_up, emb_row, emb_row]
def cyc (j : Nat) : Mx := fun i k => if i = 0 then dl j k else dl (skip j (i - 1)) k
theorem emb_dl (j : Nat) : LA.emb j dl = cyc j := by
  funext i k
  unfold emb cyc
  by_cases h0 : i = 0
  · rw [if_pos h0, if_pos h0]
  · rw [if_neg h0, if_neg h0]
    by_cases hk : k = j
    · rw [if_pos hk, hk, dl_ne (skip_ne j _)]
    · rw [if_neg hk, ← dl_skip j, skip_unskip hk]
theorem Alt.cyc {n : Nat} {F : Mx → Rat} (h : Alt n F) : ∀ j, j < n → F (LA.cyc j) = sg j * F dl
  | 0, hj => by
    rw [sg_zero, Rat.one_mul]
    refine h.congr _ _ fun i hi k hk => ?_
    unfold LA.cyc
    by_cases h0 : i = 0
    · rw [if_pos h0, h0]
    · rw [if_neg h0]
      congr 1
      unfold skip
      rw [if_neg (by omega)]
      omega
  | j + 1, hj => by
    have ih := h.cyc j (by omega)
    have e : LA.cyc (j + 1) = sw (LA.cyc j) 0 (j + 1) := by
      funext i k
      unfold sw
      by_cases h1 : i = j + 1
      · rw [h1, up_at]
        unfold LA.cyc
        rw [if_neg (by omega), if_pos rfl]
        congr 1
        unfold skip
        rw [if_pos (by omega)]
        omega
      · rw [up_ne _ _ h1]
        by_cases h0 : i = 0
        · rw [h0, up_at]
          unfold LA.cyc
          rw [if_pos rfl, if_neg (by omega)]
          congr 1
          unfold skip
          rw [if_neg (by omega)]
          omega
        · rw [up_ne _ _ h0]
          unfold LA.cyc
          rw [if_neg h0, if_neg h0]
          congr 1
          unfold skip
          repeat' split
          all_goals omega
    rw [e, h.swap' _ (by omega) hj (by omega), ih, sg_succ]
    grind
theorem Alt.eq : ∀ (n : Nat) {F : Mx → Rat}, Alt n F → ∀ A, F A = det n A * F dl
  | 0, F, h, A => by
    show F A = 1 * F dl
    rw [h.congr A dl fun i hi => absurd hi (by omega)]; grind
  | n + 1, F, h, A => by
    have e1 : F A = sm (n + 1) fun j => A 0 j * F (up A 0 (dl j)) := by
      have h1 := h.sum A (r := 0) (by omega) (fun t => A 0 t) (fun t => dl t) (n + 1)
      rw [← h1]
      refine h.congr _ _ fun i hi k hk => ?_
      by_cases h0 : i = 0
      · rw [h0, up_at, sm_dl_r (f := fun t => A 0 t) hk]
      · rw [up_ne _ _ h0]
    have e2 : ∀ j, j < n + 1 → F (up A 0 (dl j)) = F (LA.emb j fun i k => A (i + 1) (skip j k)) := fun j hj => by
      rw [← h.clear (up A 0 (dl j)) (fun i => - A i j) (n + 1) (Nat.le_refl _)]
      refine h.congr _ _ fun i hi k hk => ?_
      unfold LA.emb
      by_cases h0 : i = 0
      · rw [if_neg (by omega), if_pos h0, h0, up_at]
      · rw [if_pos ⟨by omega, hi⟩, if_neg h0, up_ne _ _ h0, up_at]
        by_cases hkj : k = j
        · rw [if_pos hkj, hkj, dl_self]; grind
        · rw [if_neg hkj, dl_ne (Ne.symm hkj)]
          show _ = A (i - 1 + 1) (skip j (unskip j k))
          rw [skip_unskip hkj, Nat.sub_add_cancel (by omega)]; grind
    rw [e1]
    show _ = sm (n + 1) _ * F dl
    rw [← sm_mulr]
    refine sm_congr fun j hj => ?_
    rw [e2 j hj]
    have h3 := Alt.eq n (h.emb hj) fun i k => A (i + 1) (skip j k)
    (try dsimp only at h3)
    rw [h3, emb_dl, h.cyc j hj]
    grind
theorem det_dl : ∀ n, det n dl = 1
  | 0 => rfl
  | n + 1 => by
    show sm (n + 1) _ = 1
    rw [sm_one (k := 0) (by omega) fun j hj hj0 => by rw [dl_ne (i := 0) (j := j) (by omega)]; grind]
    have e : det n (fun i k => dl (i + 1) (skip 0 k)) = 1 := by
      rw [← det_dl n]
      refine det_congr n fun i hi k hk => ?_
      exact dl_skip 0 i k
    rw [e, sg_zero, dl_self]; grind
theorem det_mul (n : Nat) (A B : Mx) : det n (mul n A B) = det n A * det n B := by
  have mr : ∀ (A : Mx) (r : Nat) (x : Nat → Rat), mul n (up A r x) B = up (mul n A B) r fun j => sm n fun t => x t * B t j := fun A r x => by
    funext i j
    by_cases h : i = r
    · rw [h, up_at]
      exact sm_congr fun t _ => by rw [up_at]
    · rw [up_ne _ _ h]
      exact sm_congr fun t _ => by rw [up_ne _ _ h]
  have h : Alt n fun A => det n (mul n A B) := by
    refine ⟨fun A A' e => det_congr n (Eqm.mul e Eqm.refl), fun A r x y hr => ?_, fun A r c x hr => ?_, fun A r hr => ?_⟩
    · (try dsimp only)
      rw [mr, mr, mr, ← det_add n _ _ _ _ hr]
      congr 2
      funext j
      rw [← sm_add]
      exact sm_congr fun t _ => by grind
    · (try dsimp only)
      rw [mr, mr, ← det_mul' n _ _ _ _ hr]
      congr 2
      funext j
      rw [← sm_mul]
      exact sm_congr fun t _ => by grind
    · (try dsimp only)
      rw [mr, mr]
      exact det_swap n (mul n A B) r hr
  rw [Alt.eq n h A]
  congr 1
  exact det_congr n (dl_mul B)
/-- along the first column -/
def detC : Nat → Mx → Rat
  | 0, _ => 1
  | n + 1, A => sm (n + 1) fun i => sg i * A i 0 * detC n fun k l => A (skip i k) (l + 1)
theorem detC_tr : ∀ (n : Nat) (A : Mx), detC n A = det n (tr A)
  | 0, _ => rfl
  | n + 1, A => sm_congr fun i _ => by rw [detC_tr n]; rfl
theorem detC_congr (n : Nat) {A B : Mx} (h : Eqm n n A B) : detC n A = detC n B := by
  rw [detC_tr, detC_tr]
  exact det_congr n fun i hi j hj => h j hj i hi
/-- a row's place when another one is taken out -/
theorem cut_up {A : Mx} {r i : Nat} {x : Nat → Rat} (h : i ≠ r) : (fun k l => up A r x (skip i k) (l + 1)) = up (fun k l => A (skip i k) (l + 1)) (unskip i r) fun l => x (l + 1) := by
  funext k l
  by_cases c : skip i k = r
  · have e : k = unskip i r := by rw [← c, unskip_skip]
    rw [c, up_at, e, up_at]
  · rw [up_ne _ _ c, up_ne _ _ fun e => c (by rw [e, skip_unskip (Ne.symm h)])]
theorem cut_same {A : Mx} {r : Nat} {x : Nat → Rat} : (fun k l => up A r x (skip r k) (l + 1)) = fun k l => A (skip r k) (l + 1) := by
  funext k l
  rw [up_ne _ _ (skip_ne r k)]
theorem detC_add : ∀ (n : Nat) (A : Mx) (r : Nat) (x y : Nat → Rat), r < n → detC n (up A r fun j => x j + y j) = detC n (up A r x) + detC n (up A r y)
  | n + 1, A, r, x, y, hr => by
    show sm (n + 1) _ = sm (n + 1) _ + sm (n + 1) _
    rw [← sm_add]
    refine sm_congr fun i hi => ?_
    by_cases h : i = r
    · rw [h, cut_same, cut_same, cut_same, up_at, up_at, up_at]; grind
    · rw [cut_up h, cut_up h, cut_up h, up_ne _ _ h, up_ne _ _ h, up_ne _ _ h, detC_add n _ _ _ _ (unskip_lt hi (Ne.symm h) hr)]
      grind
theorem detC_mul' : ∀ (n : Nat) (A : Mx) (r : Nat) (c : Rat) (x : Nat → Rat), r < n → detC n (up A r fun j => c * x j) = c * detC n (up A r x)
  | n + 1, A, r, c, x, hr => by
    show sm (n + 1) _ = c * sm (n + 1) _
    rw [← sm_mul]
    refine sm_congr fun i hi => ?_
    by_cases h : i = r
    · rw [h, cut_same, cut_same, up_at, up_at]; grind
    · rw [cut_up h, cut_up h, up_ne _ _ h, up_ne _ _ h, detC_mul' n _ _ _ _ (unskip_lt hi (Ne.symm h) hr)]
      grind
/-- two terms of a sum change places -/
theorem sm_two {f g : Nat → Rat} {n r : Nat} (hr : r + 1 < n) (h0 : f r = g (r + 1)) (h1 : f (r + 1) = g r) (h : ∀ i, i < n → i ≠ r → i ≠ r + 1 → f i = g i) : sm n f = sm n g := by
  obtain ⟨m, rfl⟩ := Nat.exists_eq_add_of_le (show r + 2 ≤ n by omega)
  have sp : ∀ f : Nat → Rat, sm (r + 2 + m) f = sm r f + f r + f (r + 1) + sm m (fun i => f (r + 2 + i)) := fun f => by rw [sm_app]; rfl
  rw [sp, sp, sm_congr (n := r) fun i hi => h i (by omega) (by omega) (by omega), sm_congr (n := m) fun i hi => h (r + 2 + i) (by omega) (by omega) (by omega), h0, h1]
  grind
theorem detC_swap : ∀ (n : Nat) (A : Mx) (r : Nat), r + 1 < n → detC n (up (up A r (A (r + 1))) (r + 1) (A r)) = - detC n A
  | n + 1, A, r, hr => by
    show sm (n + 1) _ = - sm (n + 1) _
    rw [← sm_neg]
    have e1 : (fun k l => up (up A r (A (r + 1))) (r + 1) (A r) (skip r k) (l + 1)) = fun k l => A (skip (r + 1) k) (l + 1) := by
      funext k l
      by_cases c : skip r k = r + 1
      · have hk : k = r := skip_inj (j := r) (by rw [c]; unfold skip; rw [if_neg (by omega)])
        rw [c, up_at]
        have : skip (r + 1) k = r := by rw [hk]; unfold skip; rw [if_pos (by omega)]
        rw [this]
      · rw [up_ne _ _ c, up_ne _ _ (skip_ne r k)]
        have : skip (r + 1) k = skip r k := by
          unfold skip at c ⊢
          repeat' split at c
          all_goals (repeat' split)
          all_goals omega
        rw [this]
    have e2 : (fun k l => up (up A r (A (r + 1))) (r + 1) (A r) (skip (r + 1) k) (l + 1)) = fun k l => A (skip r k) (l + 1) := by
      funext k l
      rw [up_ne _ _ (skip_ne (r + 1) k)]
      by_cases c : skip (r + 1) k = r
      · have hk : k = r := skip_inj (j := r + 1) (by rw [c]; unfold skip; rw [if_pos (by omega)])
        rw [c, up_at]
        have : skip r k = r + 1 := by rw [hk]; unfold skip; rw [if_neg (by omega)]
        rw [this]
      · rw [up_ne _ _ c]
        have : skip (r + 1) k = skip r k := by
          unfold skip at c ⊢
          repeat' split at c
          all_goals (repeat' split)
          all_goals omega
        rw [this]
    refine sm_two hr ?_ ?_ fun i hi h1 h2 => ?_
    · rw [e1, sg_succ, up_ne _ _ (by omega), up_at]; grind
    · rw [e2, sg_succ, up_at]; grind
    · rw [cut_up h2, cut_up h1, up_ne _ _ h2, up_ne _ _ h1]
      have hu : unskip i (r + 1) = unskip i r + 1 := by
        unfold unskip
        repeat' split
        all_goals omega
      have ih := detC_swap n (fun k l => A (skip i k) (l + 1)) (unskip i r) (by
        have := unskip_lt (n := n) hi (Ne.symm h2) (by omega : r + 1 < n + 1)
        omega)
      have s1 : skip i (unskip i r) = r := skip_unskip (Ne.symm h1)
      have s2 : skip i (unskip i r + 1) = r + 1 := by rw [← hu]; exact skip_unskip (Ne.symm h2)
      rw [s1, s2] at ih
      rw [hu, ih]; grind
theorem det_tr (n : Nat) (A : Mx) : det n (tr A) = det n A := by
  rw [← detC_tr]
  have h : Alt n (detC n) := ⟨fun _ _ h => detC_congr n h, detC_add n, detC_mul' n, detC_swap n⟩
  have e : detC n dl = 1 := by
    rw [detC_tr, ← det_dl n]
    exact det_congr n fun i _ j _ => dl_comm j i
  rw [Alt.eq n h A, e]; grind
end LA
/-! Sweeping whole numbers without fractions: all that comes are determinants. -/
namespace LA
/-- determinants of whole numbers are whole -/
def detZ : Nat → (Nat → Nat → Int) → Int
  | 0, _ => 1
  | n + 1, A => (List.range (n + 1)).foldr (fun j s => (if j % 2 = 0 then 1 else -1) * A 0 j * detZ n (fun i k => A (i + 1) (skip j k)) + s) 0
def isZ (q : Rat) : Prop := ∃ z : Int, q = (z : Rat)
theorem isZ.add {p q : Rat} (h : isZ p) (g : isZ q) : isZ (p + q) := let ⟨a, h⟩ := h; let ⟨b, g⟩ := g; ⟨a + b, by rw [h, g, Rat.intCast_add]⟩
theorem isZ.mul {p q : Rat} (h : isZ p) (g : isZ q) : isZ (p * q) := let ⟨a, h⟩ := h; let ⟨b, g⟩ := g; ⟨a * b, by rw [h, g, Rat.intCast_mul]⟩
theorem isZ.int (z : Int) : isZ (z : Rat) := ⟨z, rfl⟩
theorem isZ.zero : isZ 0 := ⟨0, rfl⟩
theorem isZ.one : isZ 1 := ⟨1, rfl⟩
theorem isZ.sg (j : Nat) : isZ (LA.sg j) := by
  unfold LA.sg
  split
  · exact .one
  · exact ⟨-1, rfl⟩
theorem isZ.sm {f : Nat → Rat} : ∀ {n : Nat}, (∀ i, i < n → isZ (f i)) → isZ (LA.sm n f)
  | 0, _ => .zero
  | n + 1, h => (isZ.sm fun i hi => h i (by omega)).add (h n (by omega))
theorem det_isZ : ∀ (n : Nat) {A : Mx}, (∀ i, i < n → ∀ j, j < n → isZ (A i j)) → isZ (det n A)
  | 0, _, _ => .one
  | n + 1, A, h => isZ.sm fun j hj => ((isZ.sg j).mul (h 0 (by omega) j hj)).mul (det_isZ n fun i hi k hk => h (i + 1) (by omega) _ (skip_lt hk))
/-- along the last row, when it has but its last number -/
theorem det_last (k : Nat) (A : Mx) (h : ∀ j, j < k → A k j = 0) : det (k + 1) A = A k k * det k A := by
  have key : ∀ (k : Nat) (A : Mx), (∀ j, j < k → A k j = 0) → det (k + 1) A = A k k * det k A := by
    intro k
    induction k with
    | zero =>
      intro A _
      show (0 : Rat) + sg 0 * A 0 0 * 1 = A 0 0 * 1
      rw [sg_zero]; grind
    | succ k ih =>
      intro A h
      show sm (k + 1 + 1) _ = A (k + 1) (k + 1) * sm (k + 1) _
      show sm (k + 1) _ + sg (k + 1) * A 0 (k + 1) * det (k + 1) (fun i l => A (i + 1) (skip (k + 1) l)) = _
      have e0 : det (k + 1) (fun i l => A (i + 1) (skip (k + 1) l)) = 0 := by
        have z : ∀ l, l < k + 1 → A (k + 1) (skip (k + 1) l) = 0 := fun l hl => by
          have : skip (k + 1) l = l := if_pos hl
          rw [this]
          exact h l (by omega)
        have := (det_alt (k + 1)).mul (fun i l => A (i + 1) (skip (k + 1) l)) k 0 (fun _ => 0) (by omega)
        rw [← Rat.zero_mul (det (k + 1) (up (fun i l => A (i + 1) (skip (k + 1) l)) k fun _ => 0)), ← this]
        refine det_congr _ fun i hi l hl => ?_
        by_cases c : i = k
        · rw [c, up_at]; show A (k + 1) (skip (k + 1) l) = _; rw [z l hl]; grind
        · rw [up_ne _ _ c]
      rw [e0, ← sm_mul, Rat.mul_zero, Rat.add_zero]
      refine sm_congr fun j hj => ?_
      have := ih (fun i l => A (i + 1) (skip j l)) fun l hl => h _ (by have := skip_lt (j := j) hl; omega)
      rw [this]
      have e1 : skip j k = k + 1 := if_neg (by omega)
      rw [e1]; grind
  exact key k A h
/-- rows swept at k places: V the rows as they were, N as they are -/
structure StR (m n k : Nat) (p : Nat → Nat) (V : Mx) (lead : Rat) (N : Mx) : Prop where
  comb : ∀ i, i < m → ∃ c : Nat → Rat, ∀ j, j < n → N i j = sm k (fun a => c a * V a j) + (if i < k then 0 else lead * V i j)
  piv : ∀ i, i < m → ∀ a, a < k → N i (p a) = if i = a then lead else 0
  ld : det k (fun a c => V a (p c)) = lead
  l0 : lead ≠ 0
  pn : ∀ a, a < k → p a < n
  km : k ≤ m
/-- the number of a row that is left is a determinant -/
theorem StR.minor {m n k : Nat} {p : Nat → Nat} {V N : Mx} {lead : Rat} (h : StR m n k p V lead N) {i j : Nat} (hi : k ≤ i) (him : i < m) (hj : j < n) :
    det (k + 1) (fun a c => V (if a < k then a else i) (if c < k then p c else j)) = N i j := by
  obtain ⟨c, hc⟩ := h.comb i him
  have hl := h.l0
  let F : Mx := fun a c => V (if a < k then a else i) (if c < k then p c else j)
  show det (k + 1) F = _
  let G : Mx := up F k fun c => N i (if c < k then p c else j)
  have colj : ∀ c, c < k + 1 → (if c < k then p c else j) < n := fun c _ => by
    split
    · rename_i z; exact h.pn c z
    · exact hj
  have e1 : det (k + 1) G = lead * det (k + 1) F := by
    have e2 : det (k + 1) G = det (k + 1) (up F k fun q => sm (k + 1) fun a => (if a < k then c a else lead) * F a q) := by
      refine det_congr _ fun a ha q hq => ?_
      by_cases ca : a = k
      · rw [ca]
        have hcq := hc _ (colj q hq)
        rw [if_neg (show ¬ i < k by omega)] at hcq
        have fa : ∀ a, a < k → F a q = V a (if q < k then p q else j) := fun a ha => by
          show V (if a < k then a else i) _ = _
          rw [if_pos ha]
        have fk : F k q = V i (if q < k then p q else j) := by
          show V (if k < k then _ else i) _ = _
          rw [if_neg (show ¬ k < k by omega)]
        have l1 : G k q = N i (if q < k then p q else j) := up_at _ _ _ _
        rw [l1, up_at]
        show _ = sm k _ + (if k < k then c k else lead) * F k q
        rw [if_neg (show ¬ k < k by omega), fk, hcq, sm_congr (n := k) (f := fun a => (if a < k then c a else lead) * F a q) (g := fun a => c a * V a (if q < k then p q else j)) fun a ha => by (try dsimp only); rw [if_pos ha, fa a ha]]
      · rw [up_ne _ _ ca]
        exact up_ne _ _ ca q
    rw [e2, (det_alt (k + 1)).cramer F (by omega), if_neg (by omega)]
  have e3 : det (k + 1) G = N i j * lead := by
    rw [det_last k G fun q hq => ?_]
    · have g1 : G k k = N i j := by
        show up F k _ k k = _
        rw [up_at, if_neg (by omega)]
      rw [g1]
      congr 1
      rw [← h.ld]
      refine det_congr _ fun a ha q hq => ?_
      show up F k _ a q = _
      rw [up_ne _ _ (by omega)]
      show V (if a < k then a else i) (if q < k then p q else j) = _
      rw [if_pos ha, if_pos hq]
    · show up F k _ k q = _
      rw [up_at, if_pos hq, h.piv i him q hq, if_neg (by omega)]
  rw [e1] at e3
  grind
/-- every coefficient of a swept row is whole -/
theorem StR.whole {m n k : Nat} {p : Nat → Nat} {V N : Mx} {lead : Rat} (h : StR m n k p V lead N) (hV : ∀ i j, isZ (V i j)) {i : Nat} (hik : i < k) {c : Nat → Rat} (hc : ∀ j, j < n → N i j = sm k (fun a => c a * V a j)) : ∀ a, a < k → isZ (c a) := fun a ha => by
  have hl := h.l0
  let M : Mx := fun a c => V a (p c)
  have e1 := (det_alt k).cramer M ha c
  have e2 : det k (up M a fun q => sm k fun t => c t * M t q) = det k (up M a fun q => lead * dl i q) := by
    refine det_congr _ fun r hr q hq => ?_
    by_cases cr : r = a
    · rw [cr, up_at, up_at]
      have := hc (p q) (h.pn q hq)
      rw [← this, h.piv i (by have := h.km; omega) q hq]
      unfold dl
      by_cases e : i = q
      · rw [if_pos e, if_pos e]; grind
      · rw [if_neg e, if_neg e, Rat.mul_zero]
    · rw [up_ne _ _ cr, up_ne _ _ cr]
  rw [e2, (det_alt k).mul M a lead (dl i) ha] at e1
  have e3 : det k M = lead := h.ld
  rw [e3] at e1
  have e4 : c a = det k (up M a (dl i)) := by grind
  rw [e4]
  refine det_isZ _ fun r hr q hq => ?_
  by_cases cr : r = a
  · rw [cr, up_at]
    unfold dl
    split
    · exact .one
    · exact .zero
  · rw [up_ne _ _ cr]
    exact hV ..
theorem StR.isZ {m n k : Nat} {p : Nat → Nat} {V N : Mx} {lead : Rat} (h : StR m n k p V lead N) (hV : ∀ i j, LA.isZ (V i j)) {i j : Nat} (hi : i < m) (hj : j < n) : LA.isZ (N i j) := by
  by_cases c : i < k
  · obtain ⟨co, hc⟩ := h.comb i hi
    have hc' : ∀ j, j < n → N i j = sm k (fun a => co a * V a j) := fun j hj => by
      rw [hc j hj, if_pos c, Rat.add_zero]
    rw [hc' j hj]
    exact LA.isZ.sm fun a ha => (h.whole hV c hc' a ha).mul (hV ..)
  · rw [← h.minor (by omega) hi hj]
    exact det_isZ _ fun a _ q _ => hV ..
theorem StR.start (m n : Nat) (p : Nat → Nat) (V : Mx) : StR m n 0 p V 1 V :=
  ⟨fun i _ => ⟨fun _ => 0, fun j _ => by rw [if_neg (by omega)]; show _ = 0 + _; grind⟩, fun _ _ a ha => absurd ha (by omega), rfl, by decide, fun _ ha => absurd ha (by omega), Nat.zero_le _⟩
/-- the next place -/
theorem StR.step {m n k s : Nat} {p : Nat → Nat} {V N : Mx} {lead : Rat} (h : StR m n k p V lead N) (hk : k < m) (hs : s < n) (hz : N k s ≠ 0) :
    StR m n (k + 1) (fun a => if a < k then p a else s) V (N k s) (fun i j => if i = k then N k j else (N k s * N i j - N i s * N k j) / lead) := by
  have hl := h.l0
  obtain ⟨ck, hck⟩ := h.comb k hk
  refine ⟨fun i hi => ?_, fun i hi a ha => ?_, ?_, hz, fun a ha => ?_, by omega⟩
  · by_cases e : i = k
    · refine ⟨fun a => if a < k then ck a else lead, fun j hj => ?_⟩
      rw [if_pos e, if_pos (by omega), hck j hj, if_neg (by omega), Rat.add_zero]
      show _ = sm k _ + (if k < k then _ else lead) * V k j
      rw [if_neg (by omega)]
      congr 1
      exact sm_congr fun a ha => by (try dsimp only); rw [if_pos ha]
    · obtain ⟨c, hc⟩ := h.comb i hi
      refine ⟨fun a => if a < k then (N k s * c a - N i s * ck a) / lead else - N i s, fun j hj => ?_⟩
      rw [if_neg e]
      show _ = sm k _ + (if k < k then _ else - N i s) * V k j + _
      rw [if_neg (show ¬ k < k by omega)]
      have e1 : sm k (fun a => (if a < k then (N k s * c a - N i s * ck a) / lead else - N i s) * V a j) = (N k s * sm k (fun a => c a * V a j) - N i s * sm k fun a => ck a * V a j) / lead := by
        rw [sm_congr (g := fun a => (N k s / lead) * (c a * V a j) - (N i s / lead) * (ck a * V a j)) fun a ha => by (try dsimp only); rw [if_pos ha]; grind, sm_sub, sm_mul, sm_mul]
        grind
      rw [e1]
      have h1 := hc j hj
      have h2 := hck j hj
      rw [if_neg (by omega)] at h2
      generalize sm k (fun a => c a * V a j) = s1 at *
      generalize sm k (fun a => ck a * V a j) = s2 at *
      by_cases c2 : i < k
      · rw [if_pos c2] at h1
        rw [if_pos (by omega), h1, h2]
        grind
      · rw [if_neg c2] at h1
        rw [if_neg (by omega), h1, h2]
        grind
  · by_cases ak : a < k
    · rw [if_pos ak]
      by_cases e : i = k
      · rw [if_pos e, h.piv k hk a ak, if_neg (by omega), if_neg (by omega)]
      · rw [if_neg e, h.piv i hi a ak, h.piv k hk a ak, if_neg (show ¬ k = a by omega)]
        by_cases ia : i = a
        · rw [if_pos ia, if_pos ia]; grind
        · rw [if_neg ia, if_neg ia]; grind
    · obtain rfl : a = k := by omega
      rw [if_neg ak]
      by_cases e : i = a
      · rw [if_pos e, if_pos e]
      · rw [if_neg e, if_neg e]; grind
  · rw [← h.minor (Nat.le_refl k) hk hs]
    refine det_congr _ fun a ha q hq => ?_
    by_cases c1 : a < k
    · rw [if_pos c1]
    · rw [if_neg c1, show a = k by omega]
  · split
    · rename_i z; exact h.pn a z
    · exact hs
theorem StR.congr {m n k : Nat} {p p' : Nat → Nat} {V V' N N' : Mx} {lead : Rat} (h : StR m n k p V lead N) (hp : ∀ a, a < k → p a = p' a) (hV : Eqm m n V V') (hN : Eqm m n N N') : StR m n k p' V' lead N' := by
  have km := h.km
  refine ⟨fun i hi => ?_, fun i hi a ha => ?_, ?_, h.l0, fun a ha => by rw [← hp a ha]; exact h.pn a ha, km⟩
  · obtain ⟨c, hc⟩ := h.comb i hi
    refine ⟨c, fun j hj => ?_⟩
    rw [← hN i hi j hj, hc j hj, sm_congr (g := fun a => c a * V' a j) fun a ha => by rw [hV a (by omega) j hj]]
    by_cases c2 : i < k
    · rw [if_pos c2, if_pos c2]
    · rw [if_neg c2, if_neg c2, hV i hi j hj]
  · rw [← hp a ha, ← hN i hi _ (h.pn a ha)]
    exact h.piv i hi a ha
  · rw [← h.ld]
    exact det_congr _ fun a ha c hc => by rw [hV a (by omega) _ (h.pn c hc), hp c hc]
/-- two rows that are left change places, one of them with the other sign -/
theorem StR.move {m n k t : Nat} {p : Nat → Nat} {V N : Mx} {lead : Rat} (h : StR m n k p V lead N) (ht : k ≤ t) (tm : t < m) (hne : t ≠ k) :
    StR m n k p (up (up V k (V t)) t fun j => - V k j) lead (up (up N k (N t)) t fun j => - N k j) := by
  have vlt : ∀ a, a < k → ∀ j, up (up V k (V t)) t (fun j => - V k j) a j = V a j := fun a ha j => by rw [up_ne _ _ (by omega), up_ne _ _ (by omega)]
  refine ⟨fun i hi => ?_, fun i hi a ha => ?_, ?_, h.l0, h.pn, h.km⟩
  · by_cases e1 : i = t
    · obtain ⟨c, hc⟩ := h.comb k (by omega)
      refine ⟨fun a => - c a, fun j hj => ?_⟩
      rw [e1, up_at, if_neg (by omega), up_at, hc j hj, if_neg (by omega), sm_congr (f := fun a => - c a * _) (g := fun a => -1 * (c a * V a j)) fun a ha => by rw [vlt a ha]; grind, sm_mul]
      grind
    · by_cases e2 : i = k
      · obtain ⟨c, hc⟩ := h.comb t tm
        refine ⟨c, fun j hj => ?_⟩
        rw [e2, up_ne _ _ (by omega), up_at, if_neg (by omega), up_ne _ _ (by omega), up_at, hc j hj, if_neg (by omega)]
        congr 1
        exact sm_congr fun a ha => by rw [vlt a ha]
      · obtain ⟨c, hc⟩ := h.comb i hi
        refine ⟨c, fun j hj => ?_⟩
        rw [up_ne _ _ e1, up_ne _ _ e2, hc j hj]
        congr 1
        · exact sm_congr fun a ha => by rw [vlt a ha]
        · rw [up_ne _ _ e1, up_ne _ _ e2]
  · by_cases e1 : i = t
    · rw [e1, up_at, h.piv k (by omega) a ha, if_neg (by omega), if_neg (by omega)]; grind
    · by_cases e2 : i = k
      · rw [e2, up_ne _ _ (by omega), up_at, h.piv t tm a ha, if_neg (by omega), if_neg (by omega)]
      · rw [up_ne _ _ e1, up_ne _ _ e2]
        exact h.piv i hi a ha
  · rw [← h.ld]
    exact det_congr _ fun a ha c hc => vlt a ha _
end LA
/-! The sweep over lists of whole numbers. -/
namespace LA
def negL (r : List Int) : List Int := r.map fun x => -x
/-- row t comes up to k, row k goes down with the other sign -/
def mvL (W : ZT) (t k : Nat) : ZT := if t = k then W.set k (row W t) else (W.set k (row W t)).set t (negL (row W k))
def lmL (r ch : List Int) (s : Nat) (lead : Int) : List Int := (r.zip ch).map fun z => (ch.getD s 0 * z.1 - r.getD s 0 * z.2).fdiv lead
def clrL (W : ZT) (k s : Nat) (lead : Int) : ZT := W.mapIdx fun i r => if i = k then r else lmL r (row W k) s lead
theorem mvL_len (W : ZT) (t k : Nat) : (mvL W t k).length = W.length := by unfold mvL; split <;> simp
theorem row_mv {W : ZT} {t k : Nat} (hk : k < W.length) (ht : t < W.length) (i : Nat) : row (mvL W t k) i = if i = k then row W t else if i = t then negL (row W k) else row W i := by
  unfold mvL
  by_cases e : t = k
  · rw [if_pos e, row_set hk]
    by_cases c : i = k
    · rw [if_pos c, if_pos c]
    · rw [if_neg c, if_neg c, if_neg (by omega)]
  · rw [if_neg e, row_set (by simpa using ht), row_set hk]
    by_cases c : i = k
    · rw [if_neg (by omega), if_pos c, if_pos c]
    · rw [if_neg c, if_neg c]
theorem clrL_len (W : ZT) (k s : Nat) (lead : Int) : (clrL W k s lead).length = W.length := by unfold clrL; simp
theorem row_clr {W : ZT} {k s i : Nat} {lead : Int} (hi : i < W.length) : row (clrL W k s lead) i = if i = k then row W i else lmL (row W i) (row W k) s lead := by
  unfold row clrL
  rw [List.getD_eq_getElem?_getD, List.getElem?_mapIdx, List.getElem?_eq_getElem hi]
  simp only [Option.map_some, Option.getD_some]
  rw [List.getD_eq_getElem?_getD (l := W) (i := i), List.getElem?_eq_getElem hi]
  rfl
theorem negL_get (r : List Int) (j : Nat) : (negL r).getD j 0 = - r.getD j 0 := by
  unfold negL
  rw [List.getD_eq_getElem?_getD, List.getD_eq_getElem?_getD, List.getElem?_map]
  cases r[j]? <;> simp
theorem matZ_isZ (V : ZT) (i j : Nat) : isZ (matZ V i j) := ⟨_, rfl⟩
structure StB (m n b : Nat) (A : Mx) (s : Nat) (W V : ZT) (p : List Nat) (lead : Int) : Prop where
  tall : W.length = m
  wide : ∀ i, i < m → (row W i).length = n
  vt : V.length = m
  bits : ∀ i, i < m → ∀ x ∈ row W i, 2 * x.natAbs ≤ 2 ^ ((b + 1) * 2 ^ p.length)
  re : RE m n A (matZ W)
  dt : det m (matZ V) = det m A
  st : StR m n p.length (fun a => p.getD a 0) (matZ V) (lead : Rat) (matZ W)
  ps : ∀ i, i < p.length → p.getD i 0 < s
  inc : p.Pairwise (· < ·)
  low : ∀ i, p.length ≤ i → i < m → ∀ j, j < s → ent W i j = 0
theorem z_ne {z : Int} (h : z ≠ 0) : (z : Rat) ≠ 0 := fun e => h (Rat.intCast_inj.mp (show ((z : Int) : Rat) = ((0 : Int) : Rat) from e))
theorem z_eq {x y : Int} (h : (x : Rat) = (y : Rat)) : x = y := Rat.intCast_inj.mp h
theorem StB.skip {m n b s : Nat} {A : Mx} {W V : ZT} {p : List Nat} {lead : Int} (h : StB m n b A s W V p lead) (z : ∀ i, p.length ≤ i → i < m → ent W i s = 0) : StB m n b A (s + 1) W V p lead :=
  { h with
    ps := fun i hi => Nat.lt_succ_of_lt (h.ps i hi)
    low := fun i h1 h2 j hj => by
      by_cases e : j = s
      · subst e; exact z i h1 h2
      · exact h.low i h1 h2 j (by omega) }
theorem mat_mv {W : ZT} {t k : Nat} (hk : k < W.length) (ht : t < W.length) (hne : t ≠ k) : matZ (mvL W t k) = up (up (matZ W) k (matZ W t)) t fun j => - matZ W k j := by
  funext i j
  show ((ent _ i j : Int) : Rat) = _
  unfold ent
  rw [row_mv hk ht]
  by_cases c1 : i = k
  · rw [if_pos c1, up_ne _ _ (by omega), c1, up_at]; rfl
  · by_cases c2 : i = t
    · rw [if_neg c1, if_pos c2, c2, up_at, negL_get, Rat.intCast_neg]; rfl
    · rw [if_neg c1, if_neg c2, up_ne _ _ c2, up_ne _ _ c1]; rfl
theorem mv_self {W : ZT} {k : Nat} (hk : k < W.length) : mvL W k k = W := by
  refine ext_row (mvL_len ..) fun i hi => ?_
  rw [mvL_len] at hi
  rw [row_mv hk hk]
  by_cases c : i = k
  · rw [if_pos c, c]
  · rw [if_neg c, if_neg c]
theorem StB.move {m n b s t : Nat} {A : Mx} {W V : ZT} {p : List Nat} {lead : Int} (h : StB m n b A s W V p lead) (ht : p.length ≤ t) (tm : t < m) : StB m n b A s (mvL W t p.length) (mvL V t p.length) p lead := by
  have hk : p.length < m := by omega
  by_cases e : t = p.length
  · subst e
    rw [mv_self (by rw [h.tall]; exact hk), mv_self (by rw [h.vt]; exact hk)]
    exact h
  · have rw' := row_mv (W := W) (t := t) (k := p.length) (by rw [h.tall]; exact hk) (by rw [h.tall]; exact tm)
    have mW := mat_mv (W := W) (by rw [h.tall]; exact hk) (by rw [h.tall]; exact tm) e
    have mV := mat_mv (W := V) (by rw [h.vt]; exact hk) (by rw [h.vt]; exact tm) e
    refine ⟨by rw [mvL_len, h.tall], fun i hi => ?_, by rw [mvL_len, h.vt], fun i hi x hx => ?_, h.re.trans ?_, ?_, ?_, h.ps, h.inc, fun i h1 h2 j hj => ?_⟩
    · rw [rw']
      split
      · exact h.wide _ tm
      · split
        · unfold negL; rw [List.length_map]; exact h.wide _ hk
        · exact h.wide _ hi
    · rw [rw'] at hx
      split at hx
      · exact h.bits _ tm x hx
      · split at hx
        · obtain ⟨y, hy, rfl⟩ := List.mem_map.mp hx
          rw [Int.natAbs_neg]
          exact h.bits _ hk y hy
        · exact h.bits _ hi x hx
    · rw [mW]
      have bnd : ∀ i, i < m → (if i = p.length then t else if i = t then p.length else i) < m := fun i hi => by split <;> (try split) <;> omega
      have pos : ∀ i j, up (up (matZ W) p.length (matZ W t)) t (fun j => - matZ W p.length j) i j = (if i = t then -1 else 1) * matZ W (if i = p.length then t else if i = t then p.length else i) j := fun i j => by
        by_cases c2 : i = t
        · rw [c2, up_at, if_pos rfl, if_neg e, if_pos rfl]; grind
        · rw [up_ne _ _ c2, if_neg c2]
          by_cases c1 : i = p.length
          · rw [c1, up_at, if_pos rfl]; grind
          · rw [up_ne _ _ c1, if_neg c1, if_neg c2]; grind
      refine ⟨RS.comb (f := fun i => if i = p.length then t else if i = t then p.length else i) (g := fun i => i) (a := fun i => if i = t then -1 else 1) (b := fun _ => 0) bnd (fun i hi => hi) fun i hi j hj => by rw [pos]; grind,
        RS.comb (f := fun i => if i = p.length then t else if i = t then p.length else i) (g := fun i => i) (a := fun i => if i = p.length then -1 else 1) (b := fun _ => 0) bnd (fun i hi => hi) fun i hi j hj => ?_⟩
      rw [pos]
      by_cases c1 : i = p.length
      · rw [if_pos c1, if_pos c1, if_pos rfl, if_neg e, if_pos rfl, c1]; grind
      · rw [if_neg c1, if_neg c1]
        by_cases c2 : i = t
        · rw [if_pos c2, if_neg (by omega), if_pos rfl, c2]; grind
        · rw [if_neg c2, if_neg c2, if_neg c1, if_neg c2]; grind
    · rw [mV, ← h.dt]
      have e1 : up (up (matZ V) p.length (matZ V t)) t (fun j => - matZ V p.length j) = up (up (matZ V) p.length (matZ V t)) t fun j => (-1) * matZ V p.length j := by
        congr 1
        funext j
        grind
      rw [e1, (det_alt m).mul _ _ _ _ tm]
      have := (det_alt m).swap' (matZ V) hk tm (Ne.symm e)
      unfold sw at this
      rw [this]; grind
    · rw [mW, mV]
      exact h.st.move ht tm e
    · unfold ent
      rw [rw']
      split
      · exact h.low _ ht tm j hj
      · split
        · rw [negL_get]
          have := h.low _ (Nat.le_refl _) hk j hj
          unfold ent at this
          rw [this]; rfl
        · exact h.low _ h1 h2 j hj
theorem lm_len {r ch : List Int} {s : Nat} {lead : Int} (h : r.length = ch.length) : (lmL r ch s lead).length = r.length := by
  unfold lmL
  simp [h]
theorem lm_get {r ch : List Int} {s : Nat} {lead : Int} (h : r.length = ch.length) (j : Nat) : (lmL r ch s lead).getD j 0 = (ch.getD s 0 * r.getD j 0 - r.getD s 0 * ch.getD j 0).fdiv lead := by
  unfold lmL
  exact getD_zip h (fun x y => (ch.getD s 0 * x - r.getD s 0 * y).fdiv lead) (by simp)
theorem fdiv_le (a d : Int) (h : d ≠ 0) (hd : d ∣ a) : (a.fdiv d).natAbs ≤ a.natAbs := by
  rw [Int.fdiv_eq_ediv_of_dvd hd, Int.natAbs_ediv_of_dvd hd]
  exact Nat.div_le_self _ _
/-- the row that came up clears the others -/
theorem StB.clear {m n b s : Nat} {A : Mx} {W V : ZT} {p : List Nat} {lead : Int} (h : StB m n b A s W V p lead) (hs : s < n) (hk : p.length < m) (hz : ent W p.length s ≠ 0) : StB m n b A (s + 1) (clrL W p.length s lead) V (p ++ [s]) (ent W p.length s) := by
  have l0 : lead ≠ 0 := fun e => h.st.l0 (by rw [e]; rfl)
  have lr := h.st.l0
  have zr : matZ W p.length s ≠ 0 := z_ne hz
  have rc : ∀ i, i < m → row (clrL W p.length s lead) i = if i = p.length then row W i else lmL (row W i) (row W p.length) s lead := fun i hi => row_clr (by rw [h.tall]; exact hi)
  have st2 := h.st.step hk hs zr
  -- the division leaves nothing
  have dv : ∀ i, i < m → i ≠ p.length → ∀ j, j < n → lead ∣ ent W p.length s * ent W i j - ent W i s * ent W p.length j := fun i hi hne j hj => by
    obtain ⟨z, hz⟩ := st2.isZ (fun i j => matZ_isZ V i j) hi hj
    rw [if_neg hne] at hz
    refine ⟨z, z_eq ?_⟩
    rw [Rat.intCast_mul lead z, ← hz, Rat.intCast_sub, Rat.intCast_mul, Rat.intCast_mul]
    show matZ W p.length s * matZ W i j - matZ W i s * matZ W p.length j = _
    grind
  have wk := h.wide _ hk
  have ew : ∀ i, i < m → ∀ j, j < n → matZ (clrL W p.length s lead) i j = if i = p.length then matZ W p.length j else (matZ W p.length s * matZ W i j - matZ W i s * matZ W p.length j) / (lead : Rat) := fun i hi j hj => by
    show ((ent _ i j : Int) : Rat) = _
    unfold ent
    rw [rc i hi]
    by_cases e : i = p.length
    · rw [if_pos e, if_pos e, e]; rfl
    · rw [if_neg e, if_neg e, lm_get (by rw [h.wide _ hi, wk])]
      have d := dv i hi e j hj
      obtain ⟨z, hz⟩ := d
      have e1 : (row W p.length).getD s 0 * (row W i).getD j 0 - (row W i).getD s 0 * (row W p.length).getD j 0 = lead * z := hz
      rw [e1, Int.mul_fdiv_cancel_left _ l0]
      have e2 : matZ W p.length s * matZ W i j - matZ W i s * matZ W p.length j = (lead : Rat) * (z : Rat) := by
        rw [← Rat.intCast_mul, ← hz, Rat.intCast_sub, Rat.intCast_mul, Rat.intCast_mul]
        rfl
      rw [e2]
      grind
  have gp : ∀ i, i < p.length → (p ++ [s]).getD i 0 = p.getD i 0 := fun i hi => by
    rw [List.getD_eq_getElem?_getD, List.getD_eq_getElem?_getD, List.getElem?_append_left hi]
  have gs : (p ++ [s]).getD p.length 0 = s := by
    rw [List.getD_eq_getElem?_getD, List.getElem?_append_right (Nat.le_refl _)]
    simp
  have pl : (p ++ [s]).length = p.length + 1 := by simp
  refine ⟨by rw [clrL_len, h.tall], fun i hi => ?_, h.vt, fun i hi x hx => ?_, h.re.trans ?_, h.dt, ?_, fun i hi => ?_, ?_, fun i h1 h2 j hj => ?_⟩
  · rw [rc i hi]
    split
    · exact h.wide _ hi
    · rw [lm_len (by rw [h.wide _ hi, wk]), h.wide _ hi]
  · rw [rc i hi] at hx
    rw [pl, Nat.pow_succ]
    have g2 : (b + 1) * (2 ^ p.length * 2) = 2 * ((b + 1) * 2 ^ p.length) := by grind
    rw [g2]
    split at hx
    · exact Nat.le_trans (h.bits _ hi x hx) (Nat.pow_le_pow_right (by decide) (by omega))
    · rename_i hne
      obtain ⟨j, hj, rfl⟩ := List.mem_iff_getElem.mp hx
      have hj2 : j < n := by rw [lm_len (by rw [h.wide _ hi, wk]), h.wide _ hi] at hj; exact hj
      have e1 : (lmL (row W i) (row W p.length) s lead)[j] = (lmL (row W i) (row W p.length) s lead).getD j 0 := by
        rw [List.getD_eq_getElem?_getD, List.getElem?_eq_getElem hj]; rfl
      rw [e1, lm_get (by rw [h.wide _ hi, wk])]
      have d := dv i hi hne j hj2
      refine Nat.le_trans (Nat.mul_le_mul_left 2 (fdiv_le _ _ l0 d)) ?_
      exact two_pow (h.bits _ hk _ (getD_mem (by rw [wk]; exact hs))) (h.bits _ hi _ (getD_mem (by rw [h.wide _ hi]; exact hj2))) (h.bits _ hi _ (getD_mem (by rw [h.wide _ hi]; exact hs))) (h.bits _ hk _ (getD_mem (by rw [wk]; exact hj2)))
  · refine ⟨RS.comb (f := fun i => i) (g := fun _ => p.length) (a := fun i => if i = p.length then 1 else matZ W p.length s / (lead : Rat)) (b := fun i => if i = p.length then 0 else - matZ W i s / (lead : Rat)) (fun i hi => hi) (fun _ _ => hk) fun i hi j hj => ?_,
      RS.comb (f := fun i => i) (g := fun _ => p.length) (a := fun i => if i = p.length then 1 else (lead : Rat) / matZ W p.length s) (b := fun i => if i = p.length then 0 else matZ W i s / matZ W p.length s) (fun i hi => hi) (fun _ _ => hk) fun i hi j hj => ?_⟩
    · rw [ew i hi j hj]
      by_cases e : i = p.length
      · rw [if_pos e, if_pos e, if_pos e, e]; grind
      · rw [if_neg e, if_neg e, if_neg e]; grind
    · rw [ew i hi j hj, ew p.length hk j hj, if_pos rfl]
      by_cases e : i = p.length
      · rw [if_pos e, if_pos e, if_pos e, e]; grind
      · rw [if_neg e, if_neg e, if_neg e]; grind
  · rw [pl]
    refine st2.congr (fun a ha => ?_) Eqm.refl fun i hi j hj => (ew i hi j hj).symm
    by_cases c : a < p.length
    · rw [if_pos c, gp a c]
    · rw [if_neg c, show a = p.length by omega, gs]
  · rw [pl] at hi
    by_cases c : i < p.length
    · rw [gp i c]; exact Nat.lt_succ_of_lt (h.ps i c)
    · rw [show i = p.length by omega, gs]; omega
  · refine List.pairwise_append.mpr ⟨h.inc, List.pairwise_singleton _ _, fun x hx y hy => ?_⟩
    rw [List.mem_singleton.mp hy]
    obtain ⟨a, ha, rfl⟩ := List.mem_iff_getElem.mp hx
    have := h.ps a ha
    rw [List.getD_eq_getElem?_getD, List.getElem?_eq_getElem ha] at this
    exact this
  · rw [pl] at h1
    have := ew i h2 j (by omega)
    rw [if_neg (by omega)] at this
    refine z_eq ?_
    show matZ _ i j = _
    rw [this]
    by_cases c : j < s
    · have z1 : matZ W i j = 0 := by show ((ent W i j : Int) : Rat) = 0; rw [h.low i (by omega) h2 j c]; rfl
      have z2 : matZ W p.length j = 0 := by show ((ent W _ j : Int) : Rat) = 0; rw [h.low _ (Nat.le_refl _) hk j c]; rfl
      rw [z1, z2]
      show _ = (0 : Rat)
      grind
    · obtain rfl : j = s := by omega
      show _ = (0 : Rat)
      grind
theorem StB.step {m n b s t : Nat} {A : Mx} {W V : ZT} {p : List Nat} {lead : Int} (h : StB m n b A s W V p lead) (hs : s < n) (ht : p.length ≤ t) (tm : t < m) (hz : ent W t s ≠ 0) : StB m n b A (s + 1) (clrL (mvL W t p.length) p.length s lead) (mvL V t p.length) (p ++ [s]) (ent W t s) := by
  have h2 := h.move ht tm
  have e : ent (mvL W t p.length) p.length s = ent W t s := by
    unfold ent
    rw [row_mv (by rw [h.tall]; omega) (by rw [h.tall]; exact tm), if_pos rfl]
  have := h2.clear hs (by omega) (by rw [e]; exact hz)
  rw [e] at this
  exact this
/-- the rank, if all columns are swept -/
theorem StB.done {m n b : Nat} {A : Mx} {W V : ZT} {p : List Nat} {lead : Int} (h : StB m n b A n W V p lead) : rk m n A = p.length := by
  rw [h.re.rk]
  have km := h.st.km
  refine ech_rk (p := fun i => p.getD i 0) km h.ps (fun i hi => ?_) (fun i hi j hj => ?_) fun i h1 h2 j hj => ?_
  · rw [h.st.piv i (by omega) i hi, if_pos rfl]; exact h.st.l0
  · rw [h.st.piv i (by omega) j (by omega), if_neg (by omega)]
  · show ((ent W i j : Int) : Rat) = 0
    rw [h.low i h1 h2 j hj]; rfl
end LA
/-! Rows made whole. -/
namespace Mir
open PySem L2 ML LA
def lcd (r : List Rat) : Nat := r.foldl (fun f q => f.lcm q.den) 1
def whq (r : List Rat) : List Int := r.map fun q => q.num * ((lcd r / q.den : Nat) : Int)
def scl (rows : List (List Rat)) : Nat := rows.foldl (fun s r => s * lcd r) 1
theorem lcd_fold : ∀ (r : List Rat) (f : Nat), 0 < f → 0 < r.foldl (fun f q => f.lcm q.den) f ∧ f ∣ r.foldl (fun f q => f.lcm q.den) f ∧ ∀ q ∈ r, q.den ∣ r.foldl (fun f q => f.lcm q.den) f
  | [], f, h => ⟨h, Nat.dvd_refl _, fun q hq => by cases hq⟩
  | q :: r, f, h => by
    obtain ⟨h1, h2, h3⟩ := lcd_fold r (f.lcm q.den) (Nat.lcm_pos h q.den_pos)
    refine ⟨h1, Nat.dvd_trans (Nat.dvd_lcm_left ..) h2, fun x hx => ?_⟩
    rcases List.mem_cons.mp hx with rfl | hx
    · exact Nat.dvd_trans (Nat.dvd_lcm_right ..) h2
    · exact h3 x hx
theorem lcd_pos (r : List Rat) : 0 < lcd r := (lcd_fold r 1 (by decide)).1
theorem lcd_dvd {r : List Rat} {q : Rat} (h : q ∈ r) : q.den ∣ lcd r := (lcd_fold r 1 (by decide)).2.2 q h
theorem lcd_le' {b : Nat} : ∀ (r : List Rat) (f k : Nat), (∀ q ∈ r, Qb b q) → f ≤ 2 ^ (b * k) → r.foldl (fun f q => f.lcm q.den) f ≤ 2 ^ (b * (k + r.length))
  | [], f, k, _, h => h
  | q :: r, f, k, hq, h => by
    have h1 : f.lcm q.den ≤ 2 ^ (b * (k + 1)) := by
      have hd := Nat.le_of_lt (hq q List.mem_cons_self).den
      have := mul_le_pow h hd
      rw [Nat.mul_add, Nat.mul_one]
      exact Nat.le_trans (Nat.div_le_self _ _) this
    have := lcd_le' r (f.lcm q.den) (k + 1) (fun x hx => hq x (List.mem_cons_of_mem _ hx)) h1
    rw [List.length_cons]
    rw [show k + (r.length + 1) = k + 1 + r.length by omega]
    exact this
theorem lcd_le {b n : Nat} {r : List Rat} (hq : ∀ q ∈ r, Qb b q) (hn : r.length ≤ n) : lcd r ≤ 2 ^ (b * n) :=
  Nat.le_trans (lcd_le' r 1 0 hq (by simp)) (Nat.pow_le_pow_right (by decide) (Nat.mul_le_mul_left _ (by omega)))
theorem scl_fold : ∀ (rows : List (List Rat)) (s : Nat), 0 < s → 0 < rows.foldl (fun s r => s * lcd r) s
  | [], s, h => h
  | r :: rows, s, h => scl_fold rows _ (Nat.mul_pos h (lcd_pos r))
theorem scl_pos (rows : List (List Rat)) : 0 < scl rows := scl_fold rows 1 (by decide)
theorem scl_le' {b n : Nat} : ∀ (rows : List (List Rat)) (f k : Nat), (∀ r ∈ rows, r.length ≤ n ∧ ∀ q ∈ r, Qb b q) → f ≤ 2 ^ (b * n * k) → rows.foldl (fun s r => s * lcd r) f ≤ 2 ^ (b * n * (k + rows.length))
  | [], f, k, _, h => h
  | r :: rows, f, k, hq, h => by
    have h1 : f * lcd r ≤ 2 ^ (b * n * (k + 1)) := by
      have := mul_le_pow h (lcd_le (hq r List.mem_cons_self).2 (hq r List.mem_cons_self).1)
      rw [Nat.mul_add, Nat.mul_one]
      exact this
    have := scl_le' rows (f * lcd r) (k + 1) (fun x hx => hq x (List.mem_cons_of_mem _ hx)) h1
    rw [List.length_cons]
    rw [show k + (rows.length + 1) = k + 1 + rows.length by omega]
    exact this
theorem scl_le {b n m : Nat} {rows : List (List Rat)} (hq : ∀ r ∈ rows, r.length ≤ n ∧ ∀ q ∈ r, Qb b q) (hm : rows.length ≤ m) : scl rows ≤ 2 ^ (b * n * m) :=
  Nat.le_trans (scl_le' rows 1 0 hq (by simp)) (Nat.pow_le_pow_right (by decide) (Nat.mul_le_mul_left _ (by omega)))
theorem dLcmP {i j : Nat} {a b : Nat} (hi : i ≤ 2 ^ a) (hj : j ≤ 2 ^ b) (h : a + b < 60000000) : gLcmP [.int (i : Int), .int (j : Int)] = some (.int ((i.lcm j : Nat) : Int)) := by
  have h1 := log_le (m := a + 1) hi (by omega)
  have h2 := log_le (m := b + 1) hj (by omega)
  show (if decide ((i : Int).natAbs.log2 + (j : Int).natAbs.log2 < 67108864) = true then _ else _) = _
  exact if_pos (decide_eq_true (show i.log2 + j.log2 < 67108864 by omega))
theorem dDivPN {i j : Nat} (h : 0 < j) : dDivP (.int (i : Int)) (.int (j : Int)) = some (.int ((i / j : Nat) : Int)) := by
  show (if decide ((j : Int) ≠ 0) = true then some (PyData.int ((i : Int).fdiv j)) else none) = _
  rw [if_pos (decide_eq_true (by omega)), Int.fdiv_eq_ediv_of_nonneg _ (by omega)]
  rfl
theorem whole_eq {d : D} {rows : List (List Rat)} {b n : Nat} (hd : SeqOf d rows) (hq : ∀ r ∈ rows, r.length ≤ n ∧ ∀ q ∈ r, Qb b q) (hn : n ≤ 100) (hm : rows.length ≤ 100) (hb : b * (n + 1) * 101 < 60000000) : mir_whole_rows [d] = .ok (.tuple [encZT (rows.map whq), .int (scl rows : Int)]) none := by
  have hb1 : b * (n + 1) = b * n + b := by rw [Nat.mul_add, Nat.mul_one]
  refine ROk.eq ?_
  unfold mir_whole_rows
  refine ROk.mDef (env := [some _, none, none, none, none, none, none, none]) rfl rfl ?_
  unfold body_whole_rows
  walk_at "m"
  refine ⟨_, hd.items, ?_⟩
  refine Fine.each_map encRow (fun rem e => ∃ (done : List (List Rat)) (x3 x4 x5 x6 x7 : Option D), e = [some d, some (encZT (done.map whq)), some (.int (scl done : Int)), x3, x4, x5, x6, x7] ∧ done ++ rem = rows) ?_ ?_ rows ?_
  · rintro r rem e ⟨dn, x3, x4, x5, x6, x7, rfl, hd⟩
    have hr := hq r (by rw [← hd]; simp)
    have hl : dn.length + 1 ≤ 100 := by have := congrArg List.length hd; simp at this; omega
    walk_at "m"
    refine Fine.each_map encQ (fun rem e => ∃ (x5 : Option D) (dq : List Rat), e = [some d, some (encZT (dn.map whq)), some (.int (scl dn : Int)), some (encRow r), some (.int ((lcd dq : Nat) : Int)), x5, x6, x7] ∧ dq ++ rem = r) ?_ ?_ r ?_
    · rintro q rem e ⟨x5, dq, rfl, hdq⟩
      have hl2 : dq.length + 1 ≤ n := by have := congrArg List.length hdq; simp at this; omega
      have h1 := lcd_le (b := b) (n := n) (r := dq) (fun x hx => hr.2 x (by rw [← hdq]; simp [hx])) (by omega)
      have h2 := (hr.2 q (by rw [← hdq]; simp)).den
      have en : PyData.int ((lcd dq).lcm q.den : Nat) = .int ((lcd (dq ++ [q]) : Nat) : Int) := by unfold lcd; rw [List.foldl_append]; rfl
      unfold encQ
      walk_at "m"
      refine ⟨_, dLcmP h1 (Nat.le_of_lt h2) (by omega), ?_⟩
      rw [en]
      walk_at "m"
      exact ⟨_, dq ++ [q], rfl, by rw [← hdq]; simp⟩
    · rintro e ⟨x5, dq, rfl, hdq⟩
      rw [List.append_nil] at hdq
      subst hdq
      refine .inl ⟨rfl, ?_⟩
      have c1 := lcd_le hr.2 hr.1
      walk_at "m"
      refine Fine.comp_en dq encQ (fun q => PyData.int (q.num * ((lcd dq / q.den : Nat) : Int))) ?_ (by omega) ?_ ?_
      · walk_at "m"
        rfl
      · intro q hqr
        have hqq := hr.2 q hqr
        walk_at "m"
        refine ⟨_, dDivPN q.den_pos, ?_⟩
        walk_at "m"
        refine ⟨_, dMul_int (log_le (Nat.le_of_lt hqq.num) (by omega)) (log_le (Nat.le_trans (Nat.div_le_self _ _) c1) (by omega)), ?_⟩
        exact ⟨rfl, rfl⟩
      · refine ⟨_, rfl, decide_eq_true (by simp; omega), ?_⟩
        walk_at "m"
        have s1 : scl dn ≤ 2 ^ (b * n * 100) := scl_le (fun x hx => hq x (by rw [← hd]; simp [hx])) (by omega)
        refine ⟨_, dMul_int (log_le s1 (by omega)) (log_le c1 (by omega)), ?_⟩
        walk_at "m"
        have e1 : PyData.list ((dn.map whq).map encZ ++ [.list (dq.map fun q => PyData.int (q.num * ((lcd dq / q.den : Nat) : Int)))]) = encZT ((dn ++ [dq]).map whq) := by
          unfold encZT
          rw [List.map_append, List.map_append]
          simp only [encZ, whq, List.map_map, List.map_cons, List.map_nil]
          rfl
        have e2 : ((scl dn : Nat) : Int) * ((lcd dq : Nat) : Int) = ((scl (dn ++ [dq]) : Nat) : Int) := by
          unfold scl
          rw [List.foldl_append]
          exact (Int.natCast_mul _ _).symm
        rw [e1, e2]
        exact ⟨dn ++ [dq], _, _, _, _, _, rfl, by rw [← hd]; simp⟩
    · exact ⟨_, [], rfl, rfl⟩
  · rintro e ⟨dn, x3, x4, x5, x6, x7, rfl, hd⟩
    rw [List.append_nil] at hd
    subst hd
    refine .inl ⟨rfl, ?_⟩
    walk_at "m"
    exact ⟨rfl, rfl⟩
  · exact ⟨[], _, _, _, _, _, rfl, rfl⟩
end Mir
/-! Steps of a sweep. -/
namespace Mir
open PySem L2 ML LA
theorem first_ok {W : ZT} {m n k s : Nat} (hW : W.length = m) (hw : ∀ i, i < m → (row W i).length = n) (hs : s < n) (hm : m ≤ 1000) (hk : k ≤ m) : ROk (mir__first_row [encZT W, .int (k : Int), .int (s : Int)]) fun d o => o = none ∧ ((∃ t : Nat, d = .int (t : Int) ∧ k ≤ t ∧ t < m ∧ ent W t s ≠ 0) ∨ (d = .none ∧ ∀ i, k ≤ i → i < m → ent W i s = 0)) := by
  unfold mir__first_row
  refine ROk.mDef (env := [some _, some _, some _, none]) rfl rfl ?_
  unfold body__first_row
  unfold encZT
  walk_at "m"
  refine Fine.range2N ?_
  walk_at "m"
  refine ⟨k, m, by rw [List.length_map, hW], by omega, by omega, ?_⟩
  refine Fine.each_rng (fun a e => ∃ (y : Option D), e = [some (.list (W.map encZ)), some (.int (k : Int)), some (.int (s : Int)), y] ∧ ∀ i, k ≤ i → i < a → ent W i s = 0) _ _ ?_ ?_ _ ?_
  · rintro a e ha1 ha2 ⟨y, rfl, h⟩
    have aW : a < W.length := by omega
    have sl : s < (row W a).length := by rw [hw a (by omega)]; exact hs
    walk_at "m"
    rw [ne_if]
    refine ⟨fun hy => ?_, fun hy => ?_⟩
    · have hy : (row W a).getD s 0 ≠ 0 := of_decide_eq_true hy
      walk_at "m"
      exact .inr ⟨(fun h => by cases h), rfl, .inl ⟨a, rfl, ha1, by omega, hy⟩⟩
    · have hy : (row W a).getD s 0 = 0 := Classical.byContradiction (of_decide_eq_false hy)
      walk_at "m"
      intro i h1 h2
      by_cases c : i = a
      · subst c; exact hy
      · exact h i h1 (by omega)
  · rintro e ⟨y, rfl, h⟩
    refine .inl ⟨rfl, ?_⟩
    walk_at "m"
    exact ⟨rfl, .inr ⟨rfl, fun i h1 h2 => h i h1 (by omega)⟩⟩
  · exact ⟨_, rfl, fun i h1 h2 => absurd h1 (by omega)⟩
theorem moved_eq {W : ZT} {m k t : Nat} (hW : W.length = m) (hn : ∀ i, i < m → (row W i).length ≤ 1000) (hm : m ≤ 1000) (hk : k < m) (ht : t < m) : mir__moved_up [encZT W, .int (t : Int), .int (k : Int)] = .ok (encZT (mvL W t k)) none := by
  refine ROk.eq ?_
  unfold mir__moved_up
  refine ROk.mDef (env := [some _, some _, some _, none, none]) rfl rfl ?_
  unfold body__moved_up
  unfold encZT
  have tW : t < W.length := by omega
  have kW : k < W.length := by omega
  walk_at "m"
  rw [ne_ifN]
  have kl := hn k hk
  refine ⟨fun hy => ?_, fun hy => ?_⟩
  · have hy : t ≠ k := of_decide_eq_true hy
    walk_at "m"
    refine Fine.comp_en (row W k) PyData.int (fun x => PyData.int (-x)) ?_ (by omega) ?_ ?_
    · walk_at "m"
      rfl
    · intro x hx
      walk_at "m"
      rfl
    · walk_at "m"
      have e1 : PyData.list ((row W k).map fun x => PyData.int (-x)) = encZ (negL (row W k)) := by
        unfold encZ negL
        rw [List.map_map]
        rfl
      rw [e1, encZT_set, encZT_set]
      walk_at "m"
      unfold mvL
      rw [if_neg hy]
      exact ⟨rfl, rfl⟩
  · have hy : t = k := Classical.byContradiction (of_decide_eq_false hy)
    walk_at "m"
    rw [encZT_set]
    unfold mvL
    rw [if_pos hy]
    exact ⟨rfl, rfl⟩
theorem dDivPI {i j : Int} (h : j ≠ 0) : dDivP (.int i) (.int j) = some (.int (i.fdiv j)) := if_pos (decide_eq_true h)
theorem less_eq {r ch : List Int} {s c : Nat} {lead : Int} (hl : lead ≠ 0) (hs : s < r.length) (hc : r.length = ch.length) (h1 : ∀ x ∈ r, x.natAbs ≤ 2 ^ c) (h2 : ∀ x ∈ ch, x.natAbs ≤ 2 ^ c) (hb : c < 60000000) (hn : r.length ≤ 1000) : mir__less_multiple [encZ r, encZ ch, .int (s : Int), .int lead] = .ok (encZ (lmL r ch s lead)) none := by
  refine ROk.eq ?_
  unfold mir__less_multiple
  refine ROk.mDef (env := [some _, some _, some _, some _, none, none, none, none]) rfl rfl ?_
  unfold body__less_multiple
  have sc : s < ch.length := by omega
  walk_at "m"
  refine Fine.comp_en (r.zip ch) (fun z => PyData.tuple [.int z.1, .int z.2]) (fun z => PyData.int ((ch.getD s 0 * z.1 - r.getD s 0 * z.2).fdiv lead)) ?_ (by rw [List.length_zip]; omega) ?_ ?_
  · refine Fine.zipL ?_
    walk_at "m"
    refine ⟨_, _, rfl, ?_, rfl⟩
    rw [List.zip_map, List.map_map]
    rfl
  · rintro ⟨x, y⟩ hz
    obtain ⟨hx, hy'⟩ := List.of_mem_zip hz
    have bs : (ch.getD s 0).natAbs ≤ 2 ^ c := h2 _ (getD_mem sc)
    have by' : (r.getD s 0).natAbs ≤ 2 ^ c := h1 _ (getD_mem hs)
    have bx := h1 x hx
    have by2 := h2 y hy'
    walk_at "m"
    refine ⟨_, dMul_int (log_le bs (by omega)) (log_le bx (by omega)), ?_⟩
    walk_at "m"
    refine ⟨_, dMul_int (log_le by' (by omega)) (log_le by2 (by omega)), ?_⟩
    walk_at "m"
    refine ⟨_, dDivPI hl, ?_⟩
    exact ⟨rfl, rfl⟩
  · walk_at "m"
    refine ⟨?_, rfl⟩
    unfold encZ lmL
    rw [List.map_map]
    rfl
theorem cleared_eq {W : ZT} {m n k s c : Nat} {lead : Int} (hW : W.length = m) (hw : ∀ i, i < m → (row W i).length = n ∧ ∀ x ∈ row W i, x.natAbs ≤ 2 ^ c) (hl : lead ≠ 0) (hs : s < n) (hk : k < m) (hn : n ≤ 1000) (hm : m ≤ 1000) (hb : c < 60000000) : mir__cleared [encZT W, .int (k : Int), .int (s : Int), .int lead] = .ok (encZT (clrL W k s lead)) none := by
  refine ROk.eq ?_
  unfold mir__cleared
  refine ROk.mDef (env := [some _, some _, some _, some _, none, none, none]) rfl rfl ?_
  unfold body__cleared
  have kW : k < W.length := by omega
  unfold encZT
  walk_at "m"
  refine Fine.enumT ?_
  walk_at "m"
  refine ⟨_, _, rfl, rfl, ?_⟩
  have ee : enumD (W.map encZ) = (List.range m).map fun (i : Nat) => PyData.tuple [.int (i : Int), encZ (row W i)] := by
    rw [enum_map, hW]
    refine List.ext_getElem (by simp; omega) fun i a b => ?_
    have iW : i < W.length := by simp at b; omega
    simp [row, List.getD, iW]
  rw [ee]
  refine Fine.each_map (fun (i : Nat) => PyData.tuple [.int (i : Int), encZ (row W i)]) (fun rem e => ∃ (a : Nat) (x5 x6 : Option D), e = [some (.list (W.map encZ)), some (.int (k : Int)), some (.int (s : Int)), some (.int lead), some (.list (((clrL W k s lead).take a).map encZ)), x5, x6] ∧ rem = List.range' a (m - a) ∧ a ≤ m) ?_ ?_ _ ?_
  · rintro i rem e ⟨a, x5, x6, rfl, hr, ham⟩
    have ha : a < m := by
      rcases Nat.lt_or_ge a m with h | h
      · exact h
      · rw [show m - a = 0 by omega] at hr; cases hr
    rw [show m - a = (m - a - 1) + 1 by omega, List.range'_succ] at hr
    injection hr with h1 h2
    subst h1
    have iW : i < W.length := by omega
    have cl : i < (clrL W k s lead).length := by rw [clrL_len]; exact iW
    have tk : (clrL W k s lead).take (i + 1) = (clrL W k s lead).take i ++ [row (clrL W k s lead) i] := by
      rw [List.take_succ]
      simp [row, List.getD, cl]
    have nx : ∀ d, d = encZ (row (clrL W k s lead) i) → PyData.list (((clrL W k s lead).take i).map encZ ++ [d]) = .list (((clrL W k s lead).take (i + 1)).map encZ) := fun d hd => by
      rw [tk, List.map_append, hd]; rfl
    have rc := row_clr (k := k) (s := s) (lead := lead) iW
    have fl : fits (((clrL W k s lead).take i).map encZ ++ [encZ (row (clrL W k s lead) i)]).length = true := decide_eq_true (by simp; omega)
    obtain ⟨w1, b1⟩ := hw i ha
    obtain ⟨w2, b2⟩ := hw k hk
    walk_at "m"
    rw [eq_ifN]
    refine ⟨fun hy => ?_, fun hy => ?_⟩
    · have hy : i = k := of_decide_eq_true hy
      rw [if_pos hy] at rc
      rw [← rc]
      walk_at "m"
      refine ⟨decide_eq_true (by simp; omega), ?_⟩
      rw [nx _ rfl]
      exact ⟨i + 1, _, _, rfl, by rw [h2, show m - (i + 1) = m - i - 1 by omega], by omega⟩
    · have hy : ¬ i = k := of_decide_eq_false hy
      rw [if_neg hy] at rc
      walk_at "m"
      refine ROk.of_eq (less_eq hl (by omega) (by omega) b1 b2 hb (by omega)) ?_
      rw [← rc]
      walk_at "m"
      refine ⟨decide_eq_true (by simp; omega), ?_⟩
      rw [nx _ rfl]
      exact ⟨i + 1, _, _, rfl, by rw [h2, show m - (i + 1) = m - i - 1 by omega], by omega⟩
  · rintro e ⟨a, x5, x6, rfl, hr, ham⟩
    have : a = m := by
      rcases Nat.lt_or_ge a m with h | h
      · rw [show m - a = (m - a - 1) + 1 by omega, List.range'_succ] at hr; cases hr
      · omega
    subst this
    refine .inl ⟨rfl, ?_⟩
    walk_at "m"
    refine ⟨?_, rfl⟩
    rw [List.take_of_length_le (by rw [clrL_len]; omega)]
  · exact ⟨0, _, _, rfl, by rw [List.range_eq_range']; rfl, Nat.zero_le _⟩
end Mir
/-! A sweep, and the program's rank. -/
namespace Mir
open PySem L2 ML LA
def encIx (p : List Nat) : D := .list (p.map fun (i : Nat) => PyData.int (i : Int))
theorem stb_start {W : ZT} {m n b : Nat} (hl : W.length = m) (hw : ∀ i, i < m → (row W i).length = n) (hb : ∀ i, i < m → ∀ x ∈ row W i, 2 * x.natAbs ≤ 2 ^ (b + 1)) : StB m n b (matZ W) 0 W W [] 1 where
  tall := hl
  wide := hw
  vt := hl
  bits := fun i hi x hx => by simpa using hb i hi x hx
  re := .refl
  dt := rfl
  st := StR.start m n _ _
  ps := fun i hi => by simp at hi
  inc := List.Pairwise.nil
  low := fun i _ _ j hj => absurd hj (Nat.not_lt_zero _)
theorem swept_ok {W0 : ZT} {m n b w : Nat} (hl : W0.length = m) (hw : ∀ i, i < m → (row W0 i).length = n) (hb : ∀ i, i < m → ∀ x ∈ row W0 i, 2 * x.natAbs ≤ 2 ^ (b + 1)) (hwn : w ≤ n) (hm : m ≤ 100) (hn : n ≤ 100) (hc : (b + 1) * 2 ^ m < 60000000) : ROk (mir_swept [encZT W0, .int (w : Int)]) fun d o => o = none ∧ ∃ W V p lead, d = .tuple [encZT W, encIx p, .int lead] ∧ StB m n b (matZ W0) w W V p lead := by
  unfold mir_swept
  refine ROk.mDef (env := [some _, some _, none, none, none, none, none]) rfl rfl ?_
  unfold body_swept
  walk_at "m"
  refine ⟨by omega, ?_⟩
  refine Fine.each_rng0 (fun s e => ∃ (W V : ZT) (p : List Nat) (lead : Int) (x4 x5 x6 : Option D), e = [some (encZT W), some (.int (w : Int)), some (encIx p), some (.int lead), x4, x5, x6] ∧ StB m n b (matZ W0) s W V p lead) w ?_ ?_ _ ?_
  · rintro s e hs ⟨W, V, p, lead, x4, x5, x6, rfl, h⟩
    have hW := h.tall
    have hpm := h.st.km
    have hlead : lead ≠ 0 := fun z => h.st.l0 (by rw [z]; rfl)
    unfold encIx
    walk_at "m"
    rw [List.length_map]
    refine (first_ok hW h.wide (by omega) (by omega) hpm).imp ?_
    rintro _ _ ⟨rfl, ⟨t, rfl, t1, t2, t3⟩ | ⟨rfl, hz⟩⟩
    · walk_at "m"
      refine ROk.of_eq (moved_eq hW (fun i hi => by rw [h.wide i hi]; omega) (by omega) (by omega) t2) ?_
      have mv := h.move t1 t2
      have st := h.step (by omega) t1 t2 t3
      have hbb : (b + 1) * 2 ^ p.length < 60000000 := Nat.lt_of_le_of_lt (Nat.mul_le_mul_left _ (Nat.pow_le_pow_right (by decide) hpm)) hc
      walk_at "m"
      refine ROk.of_eq (cleared_eq (c := (b + 1) * 2 ^ p.length) mv.tall (fun i hi => ⟨mv.wide i hi, fun x hx => by have := mv.bits i hi x hx; omega⟩) hlead (by omega) (by omega) (by omega) (by omega) hbb) ?_
      have rc : (row (clrL (mvL W t p.length) p.length s lead) p.length) = row W t := by
        rw [row_clr (by rw [mv.tall]; omega), if_pos rfl, row_mv (by omega) (by omega), if_pos rfl]
      have cl : p.length < (clrL (mvL W t p.length) p.length s lead).length := by rw [clrL_len, mvL_len]; omega
      have sw : s < (row W t).length := by rw [h.wide t t2]; omega
      unfold encZT
      walk_at "m"
      rw [rc]
      walk_at "m"
      have ep : (p.map fun (i : Nat) => PyData.int (i : Int)) ++ [PyData.int (s : Int)] = (p ++ [s]).map fun (i : Nat) => PyData.int (i : Int) := by rw [List.map_append]; rfl
      rw [ep]
      exact ⟨decide_eq_true (by rw [List.length_map]; omega), _, mvL V t p.length, p ++ [s], _, _, _, _, rfl, st⟩
    · walk_at "m"
      exact ⟨W, V, p, lead, _, _, _, rfl, h.skip hz⟩
  · rintro e ⟨W, V, p, lead, x4, x5, x6, rfl, h⟩
    refine .inl ⟨rfl, ?_⟩
    unfold encIx
    walk_at "m"
    exact ⟨rfl, W, V, p, lead, rfl, h⟩
  · exact ⟨W0, W0, [], 1, _, _, _, rfl, stb_start hl hw hb⟩
theorem whq_get (r : List Rat) (j : Nat) : (((whq r).getD j 0 : Int) : Rat) = r.getD j 0 * ((lcd r : Nat) : Rat) := by
  unfold whq
  rw [List.getD_eq_getElem?_getD, List.getD_eq_getElem?_getD, List.getElem?_map]
  by_cases hj : j < r.length
  · rw [List.getElem?_eq_getElem hj]
    simp only [Option.map_some, Option.getD_some]
    obtain ⟨c, hc⟩ := lcd_dvd (List.getElem_mem hj)
    have z := rat_nd r[j]
    have d := den_ne r[j]
    have dp := r[j].den_pos
    have e : lcd r / r[j].den = c := by rw [hc]; exact Nat.mul_div_cancel_left _ dp
    rw [e, Rat.intCast_mul, Rat.intCast_natCast, hc, Rat.natCast_mul]
    generalize r[j] = q at *
    generalize (q.num : Rat) = a at *
    generalize (q.den : Rat) = b at *
    subst z
    grind
  · rw [List.getElem?_eq_none (by omega)]
    simp
theorem ent_whq {rows : List (List Rat)} {i : Nat} (hi : i < rows.length) (j : Nat) : matZ (rows.map whq) i j = mat rows i j * ((lcd (rows.getD i []) : Nat) : Rat) := by
  have e1 : row (rows.map whq) i = whq (rows.getD i []) := by unfold row; simp [List.getD, hi]
  show ((ent (rows.map whq) i j : Int) : Rat) = _
  unfold ent
  rw [e1, whq_get]
  rfl
theorem re_whq (rows : List (List Rat)) (n : Nat) : RE rows.length n (mat rows) (matZ (rows.map whq)) where
  to := RS.comb (f := id) (g := id) (a := fun i => ((lcd (rows.getD i []) : Nat) : Rat)) (b := fun _ => 0) (fun i h => h) (fun i h => h) fun i hi j _ => by
    rw [ent_whq hi]
    show _ = _ * mat rows i j + 0 * mat rows i j
    grind
  back := RS.comb (f := id) (g := id) (a := fun i => ((lcd (rows.getD i []) : Nat) : Rat)⁻¹) (b := fun _ => 0) (fun i h => h) (fun i h => h) fun i hi j _ => by
    have nz := nat_ne (lcd_pos (rows.getD i []))
    show _ = _ * matZ (rows.map whq) i j + 0 * matZ (rows.map whq) i j
    rw [ent_whq hi]
    grind
theorem whq_bits {r : List Rat} {b n : Nat} (hq : ∀ q ∈ r, Qb b q) (hn : r.length ≤ n) : ∀ x ∈ whq r, 2 * x.natAbs ≤ 2 ^ (b * (n + 1) + 1) := fun x hx => by
  obtain ⟨q, hqr, rfl⟩ := List.mem_map.mp hx
  have h1 := Nat.le_of_lt (hq q hqr).num
  have h2 := Nat.le_trans (Nat.div_le_self (lcd r) q.den) (lcd_le hq hn)
  have h3 := mul_le_pow h1 h2
  rw [Int.natAbs_mul, Int.natAbs_natCast]
  rw [show b * (n + 1) + 1 = (b + b * n) + 1 by rw [Nat.mul_add]; omega, Nat.pow_succ]
  omega
end Mir
/-! Free places and the program's rank. -/
namespace Mir
open PySem L2 ML LA
theorem row_whq {rows : List (List Rat)} {i : Nat} (h : i < rows.length) : row (rows.map whq) i = whq (rows.getD i []) := by unfold row; simp [List.getD, h]
theorem getD_memR {rows : List (List Rat)} {i : Nat} (h : i < rows.length) : rows.getD i [] ∈ rows := by
  simp [List.getD, h]
theorem swept_rows {rows : List (List Rat)} {b n w : Nat} (hw : ∀ r ∈ rows, r.length = n) (hq : ∀ r ∈ rows, ∀ q ∈ r, Qb b q) (hwn : w ≤ n) (hn : n ≤ 100) (hm : rows.length ≤ 100) (hc : (b * (n + 1) + 1) * 2 ^ rows.length < 60000000) : ROk (mir_swept [encZT (rows.map whq), .int (w : Int)]) fun d o => o = none ∧ ∃ W V p lead, d = .tuple [encZT W, encIx p, .int lead] ∧ StB rows.length n (b * (n + 1)) (matZ (rows.map whq)) w W V p lead :=
  swept_ok (by rw [List.length_map]) (fun i hi => by rw [row_whq hi]; unfold whq; rw [List.length_map]; exact hw _ (getD_memR hi)) (fun i hi => by
    rw [row_whq hi]
    exact whq_bits (hq _ (getD_memR hi)) (Nat.le_of_eq (hw _ (getD_memR hi)))) hwn hm hn hc
theorem free_ok {d : D} {rows : List (List Rat)} {b n w : Nat} (hd : SeqOf d rows) (hw : ∀ r ∈ rows, r.length = n) (hq : ∀ r ∈ rows, ∀ q ∈ r, Qb b q) (hwn : w ≤ n) (hn : n ≤ 100) (hm : rows.length ≤ 100) (hb : b * (n + 1) * 101 < 60000000) (hc : (b * (n + 1) + 1) * 2 ^ rows.length < 60000000) : ROk (mir_free_places [d, .int (w : Int)]) fun d' o => o = none ∧ ∃ W V p lead, d' = encIx p ∧ StB rows.length n (b * (n + 1)) (matZ (rows.map whq)) w W V p lead := by
  unfold mir_free_places
  refine ROk.mDef (env := [some _, some _]) rfl rfl ?_
  unfold body_free_places
  walk_at "m"
  refine ROk.of_eq (whole_eq hd (fun r hr => ⟨Nat.le_of_eq (hw r hr), hq r hr⟩) hn hm hb) ?_
  walk_at "m"
  refine (swept_rows hw hq hwn hn hm hc).imp ?_
  rintro _ _ ⟨rfl, W, V, p, lead, rfl, h⟩
  walk_at "m"
  exact ⟨rfl, W, V, p, lead, rfl, h⟩
theorem _root_.LA.StB.rank {rows : List (List Rat)} {b n : Nat} {W V : ZT} {p : List Nat} {lead : Int} (h : StB rows.length n b (matZ (rows.map whq)) n W V p lead) : p.length = rk rows.length n (mat rows) := by
  rw [← h.done, (re_whq rows n).rk]
end Mir
/-! The program's ranks of tables and parts; swept rows with 1 at their places. -/
namespace Mir
open PySem L2 ML LA
theorem Grid.sub {t w b : Nat} {g : List (List Rat)} (h : Grid t w b g) {I J : List Nat} (hI : ∀ i ∈ I, i < t) (hJ : ∀ j ∈ J, j < w) : Grid I.length J.length b (subT g I J) where
  tall := by unfold subT; rw [List.length_map]
  wide := fun r hr => by
    unfold subT at hr
    obtain ⟨i, _, rfl⟩ := List.mem_map.mp hr
    rw [List.length_map]
  qb := fun r hr q hq => by
    unfold subT at hr
    obtain ⟨i, hi, rfl⟩ := List.mem_map.mp hr
    obtain ⟨j, hj, rfl⟩ := List.mem_map.mp hq
    obtain ⟨l, m⟩ := h.row (hI i hi)
    exact h.qb _ m _ (getD_mem (by rw [l]; exact hJ j hj))
theorem seq_tab (g : List (List Rat)) : SeqOf (encTab g) g := .inl rfl
theorem bnds {b t w : Nat} (hb : b ≤ 4000 ∨ (b ≤ 80000 ∧ t ≤ 5 ∧ w ≤ 5)) (ht : t ≤ 6) (hw : w ≤ 6) : b * (w + 1) * 101 < 60000000 ∧ (b * (w + 1) + 2) * 2 ^ t < 30000000 := by
  rcases hb with hb | ⟨hb, ht, hw⟩
  · have h1 : b * (w + 1) ≤ 4000 * 7 := Nat.mul_le_mul hb (by omega)
    have h2 : 2 ^ t ≤ 2 ^ 6 := Nat.pow_le_pow_right (by decide) ht
    have h3 : (b * (w + 1) + 2) * 2 ^ t ≤ (4000 * 7 + 2) * 2 ^ 6 := Nat.mul_le_mul (by omega) h2
    omega
  · have h1 : b * (w + 1) ≤ 80000 * 6 := Nat.mul_le_mul hb (by omega)
    have h2 : 2 ^ t ≤ 2 ^ 5 := Nat.pow_le_pow_right (by decide) ht
    have h3 : (b * (w + 1) + 2) * 2 ^ t ≤ (80000 * 6 + 2) * 2 ^ 5 := Nat.mul_le_mul (by omega) h2
    omega
def overR (lead : Int) (W : ZT) : List (List Rat) := W.map fun r => r.map fun x => Rat.divInt x lead
theorem reduced_gen {d : D} {g : List (List Rat)} {b n w : Nat} (hd : SeqOf d g) (hw : ∀ r ∈ g, r.length = n) (hq : ∀ r ∈ g, ∀ q ∈ r, Qb b q) (hwn : w ≤ n) (hn : n ≤ 100) (hm : g.length ≤ 100) (h1 : b * (n + 1) * 101 < 60000000) (hc : (b * (n + 1) + 1) * 2 ^ g.length < 60000000) : ROk (mir_reduced [d, .int (w : Int)]) fun d o => o = none ∧ ∃ W V p lead, d = .tuple [encTab (overR lead (W.take p.length)), encIx p] ∧ StB g.length n (b * (n + 1)) (matZ (g.map whq)) w W V p lead := by
  unfold mir_reduced
  refine ROk.mDef (env := [some _, some _, none, none, none, none, none, none]) rfl rfl ?_
  unfold body_reduced
  walk_at "m"
  refine ROk.of_eq (whole_eq hd (fun r hr => ⟨Nat.le_of_eq (hw r hr), hq r hr⟩) hn hm h1) ?_
  walk_at "m"
  refine (swept_rows hw hq hwn hn hm hc).imp ?_
  rintro _ _ ⟨rfl, W, V, p, lead, rfl, st⟩
  have pm := st.st.km
  have hW := st.tall
  have hl : lead ≠ 0 := fun z => st.st.l0 (by rw [z]; rfl)
  unfold encIx encZT
  walk_at "m"
  rw [List.length_map]
  rw [cut_upto (by rw [List.length_map]; omega), ← List.map_take]
  walk_at "m"
  refine Fine.tupG_en (W.take p.length) encZ (fun r => encRow (r.map fun x => Rat.divInt x lead)) ?_ (by simp; omega) ?_ ?_
  · walk_at "m"
    rfl
  · intro r hr
    have rl : r.length = n := by
      obtain ⟨i, hi, rfl⟩ := List.getElem_of_mem (List.mem_of_mem_take hr)
      have := st.wide i (by omega)
      unfold row at this
      simpa [List.getD, hi] using this
    walk_at "s"
    refine Fine.tupG_en r PyData.int (fun x => encQ (Rat.divInt x lead)) ?_ (by omega) ?_ ?_
    · walk_at "m"
      rfl
    · intro x hx
      walk_at "m"
      refine ROk.of_eq (fraction_eq hl) ?_
      exact ⟨rfl, rfl⟩
    · refine ⟨?_, rfl⟩
      unfold encRow
      rw [List.map_map]
      rfl
  · walk_at "m"
    refine ⟨rfl, W, V, p, lead, ?_, st⟩
    have e : PyData.tuple ((W.take p.length).map fun r => encRow (r.map fun x => Rat.divInt x lead)) = encTab (overR lead (W.take p.length)) := by
      unfold encTab overR
      rw [List.map_map]
      rfl
    rw [e]
end Mir
/-! Tables as matrices. -/
namespace Mir
open PySem L2 ML LA
theorem qdot_sm : ∀ (r s : List Rat) (n : Nat), r.length = n → s.length = n → qdot r s = sm n fun i => r.getD i 0 * s.getD i 0
  | [], [], n, h, _ => by
    have : n = 0 := by simpa using h.symm
    subst this; rfl
  | [], y :: s, n, h, h2 => by simp at h h2; omega
  | x :: r, [], n, h, h2 => by simp at h h2; omega
  | x :: r, y :: s, n, h, h2 => by
    cases n with
    | zero => simp at h
    | succ n =>
      rw [sm_front]
      show x * y + qdot r s = _
      rw [qdot_sm r s n (by simpa using h) (by simpa using h2)]
      rfl
theorem row_ext {r s : List Rat} {n : Nat} (hr : r.length = n) (hs : s.length = n) (h : ∀ j, j < n → r.getD j 0 = s.getD j 0) : r = s := by
  refine List.ext_getElem (by omega) fun j h1 h2 => ?_
  have := h j (by omega)
  simpa [List.getD, h1, h2] using this
theorem getD_map {α β : Type} {l : List α} {f : α → β} {i : Nat} {d : α} {e : β} (h : i < l.length) : (l.map f).getD i e = f (l.getD i d) := by
  simp [List.getD, h]
theorem getD_range {n i : Nat} (h : i < n) {d : Nat} : (List.range n).getD i d = i := by
  simp [List.getD, h]
theorem mat_sub {g : List (List Rat)} {I J : List Nat} {i j : Nat} (hi : i < I.length) (hj : j < J.length) : mat (subT g I J) i j = mat g (I.getD i 0) (J.getD j 0) := by
  unfold mat subT
  rw [getD_map (d := 0) hi, getD_map (d := 0) hj]
theorem mat_flip {t w b : Nat} {g : List (List Rat)} (h : Grid t w b g) {i j : Nat} (hi : i < w) (hj : j < t) : mat (flipT g w) i j = mat g j i := by
  unfold mat flipT
  rw [getD_map (d := 0) (by rw [List.length_range]; exact hi), getD_range hi, getD_map (d := []) (by rw [h.tall]; exact hj)]
theorem mat_mul {t n w b c : Nat} {x y : List (List Rat)} (hx : Grid t n b x) (hy : Grid n w c y) : Eqm t w (mat (mulT x y w)) (mul n (mat x) (mat y)) := fun i hi j hj => by
  have e : mat (mulT x y w) i j = qdot (x.getD i []) ((flipT y w).getD j []) := by
    unfold mat mulT
    rw [getD_map (d := []) (by rw [hx.tall]; exact hi), getD_map (d := []) (by unfold flipT; rw [List.length_map, List.length_range]; exact hj)]
  rw [e, qdot_sm _ _ n (hx.row hi).1 (by rw [(hy.flip.row hj).1])]
  refine sm_congr fun a ha => ?_
  show mat x i a * mat (flipT y w) j a = mat x i a * mat y a j
  rw [mat_flip hy hj ha]
/-- the rows that were swept, with 1 at their places -/
theorem _root_.LA.StB.pair {n b : Nat} {W V : ZT} {p : List Nat} {lead : Int} {rows : List (List Rat)} (h : StB rows.length n b (matZ (rows.map whq)) n W V p lead) {i j : Nat} (hi : i < rows.length) (hj : j < n) :
    mat rows i j = sm p.length fun a => mat rows i (p.getD a 0) * (matZ W a j / (lead : Rat)) := by
  obtain ⟨T, hT⟩ := ((re_whq rows n).trans h.re).back
  have km := h.st.km
  have hl := h.st.l0
  have row0 : ∀ j, j < n → mat rows i j = sm p.length fun a => T i a * matZ W a j := fun j hj => by
    rw [hT i hi j hj]
    show sm rows.length (fun a => T i a * matZ W a j) = _
    refine sm_more km fun a h1 h2 => ?_
    have : ent W a j = 0 := h.low a h1 h2 j hj
    show T i a * ((ent W a j : Int) : Rat) = 0
    rw [this]
    exact Rat.mul_zero _
  have piv : ∀ a, a < p.length → mat rows i (p.getD a 0) = T i a * (lead : Rat) := fun a ha => by
    rw [row0 _ (h.ps a ha)]
    rw [sm_one (k := a) ha fun c hc hne => by rw [h.st.piv c (by omega) a ha, if_neg hne, Rat.mul_zero]]
    rw [h.st.piv a (by omega) a ha, if_pos rfl]
  rw [row0 j hj]
  refine sm_congr fun a ha => ?_
  rw [piv a ha]
  generalize matZ W a j = x at *
  generalize (lead : Rat) = l at *
  grind
end Mir
/-! Plain data compared with themselves. -/
namespace Mir
open PySem L2 ML LA
theorem pl_all {n : Nat} : ∀ xs : List D, (∀ x ∈ xs, PyData.canLay0 x = true ∧ PyData.depth x ≤ n) → PyData.canLayAll0 xs = true ∧ PyData.depthAll xs ≤ n
  | [], _ => ⟨rfl, Nat.zero_le _⟩
  | x :: xs, h => by
    obtain ⟨h1, h2⟩ := h x List.mem_cons_self
    obtain ⟨h3, h4⟩ := pl_all xs fun y hy => h y (List.mem_cons_of_mem _ hy)
    simp only [PyData.canLayAll0, PyData.depthAll, h1, h3, Bool.and_self, true_and]
    omega
theorem pl_lay : ∀ (n : Nat) (d : D), Pl n d → PyData.canLay0 d = true ∧ PyData.depth d ≤ n
  | _, .int _, _ => ⟨by simp [PyData.canLay0], by simp [PyData.depth]⟩
  | _, .bool _, _ => ⟨by simp [PyData.canLay0], by simp [PyData.depth]⟩
  | _, .none, _ => ⟨by simp [PyData.canLay0], by simp [PyData.depth]⟩
  | 0, .tuple _, h => h.elim
  | n + 1, .tuple xs, h => by
    obtain ⟨h1, h2⟩ := pl_all (n := n) xs fun x hx => pl_lay n x (h.2 x hx)
    refine ⟨by simpa [PyData.canLay0] using h1, ?_⟩
    simp only [PyData.depth]
    omega
  | 0, .list _, h => h.elim
  | _ + 1, .list _, h => h.elim
  | 0, .str _, h => h.elim
  | _ + 1, .str _, h => h.elim
  | 0, .dict _, h => h.elim
  | _ + 1, .dict _, h => h.elim
theorem pl_shaped {n : Nat} {d : D} (h : Pl n d) (hn : n ≤ 60) : SeqAt.shaped d = true := by
  obtain ⟨h1, h2⟩ := pl_lay n d h
  unfold SeqAt.shaped
  rw [h1, Bool.true_and]
  exact decide_eq_true (by omega)
theorem Pl.mono : ∀ {k : Nat} {d : D}, Pl k d → ∀ {j : Nat}, k ≤ j → Pl j d
  | _, .int _, _, _, _ => by unfold Pl; trivial
  | _, .bool _, _, _, _ => by unfold Pl; trivial
  | _, .none, _, _, _ => by unfold Pl; trivial
  | 0, .tuple _, h, _, _ => h.elim
  | k + 1, .tuple xs, h, 0, hj => by omega
  | k + 1, .tuple xs, h, j + 1, hj => ⟨h.1, fun x hx => (h.2 x hx).mono (by omega)⟩
  | 0, .list _, h, _, _ => h.elim
  | _ + 1, .list _, h, _, _ => h.elim
  | 0, .str _, h, _, _ => h.elim
  | _ + 1, .str _, h, _, _ => h.elim
  | 0, .dict _, h, _, _ => h.elim
  | _ + 1, .dict _, h, _, _ => h.elim
end Mir
/-! Two tables with a product, as thin as the rank. -/
namespace Mir
open PySem L2 ML LA
theorem mem_ps {m n b s : Nat} {A : Mx} {W V : ZT} {p : List Nat} {lead : Int} (h : StB m n b A s W V p lead) : ∀ j ∈ p, j < s := fun j hj => by
  obtain ⟨i, hi, rfl⟩ := List.getElem_of_mem hj
  have := h.ps i hi
  simpa [List.getD, hi] using this
end Mir
/-! A regular part, as great as it can be. -/
namespace Mir
open PySem L2 ML LA
theorem _root_.LA.StB.cols {n b : Nat} {W V : ZT} {p : List Nat} {lead : Int} {rows : List (List Rat)} (h : StB rows.length n b (matZ (rows.map whq)) n W V p lead) : rk rows.length p.length (fun i a => mat rows i (p.getD a 0)) = p.length := by
  have e : Eqm rows.length n (mul p.length (fun i a => mat rows i (p.getD a 0)) fun a j => matZ W a j / (lead : Rat)) (mat rows) := fun i hi j hj => (h.pair hi hj).symm
  have h1 : rk rows.length n (mat rows) ≤ rk rows.length p.length (fun i a => mat rows i (p.getD a 0)) := le_rk.mp (((le_rk.mpr (Nat.le_refl _) : LA.Le rows.length p.length _ _).rmul _).congr e)
  have h2 := (rk_ok rows.length p.length (fun i a => mat rows i (p.getD a 0))).le_cols
  have h3 := h.rank
  omega
def atN (L p : List Nat) : List Nat := p.map fun k => L.getD k 0
theorem pw_get {l : List Nat} (h : l.Pairwise (· < ·)) {i j : Nat} (hij : i < j) (hj : j < l.length) : l.getD i 0 < l.getD j 0 := by
  have := List.pairwise_iff_getElem.mp h i j (by omega) hj hij
  have e1 : l.getD i 0 = l[i] := by simp [List.getD, show i < l.length by omega]
  have e2 : l.getD j 0 = l[j] := by simp [List.getD, hj]
  omega
end Mir
/-! What the law asks of a pair and of a regular part. -/
namespace Mir
open PySem L2 ML LA
end Mir
/-! What the law asks of a regular part. -/
namespace Mir
open PySem L2 ML LA
end Mir
/-! law_k03's mirror says True. -/
namespace Mir
open PySem L2 ML LA
theorem pl_int (i : Int) : Pl 1 (.int i) := by unfold Pl; trivial
theorem pl_ns {l : List Nat} (h : l.length ≤ 1000) : Pl 2 (encNs l) := ⟨by rw [List.length_map]; exact h, fun x hx => by
  obtain ⟨i, _, rfl⟩ := List.mem_map.mp hx
  exact pl_int _⟩
end Mir
/-! Drawn regular tables. -/
namespace Mir
open PySem L2 ML LA
theorem spare_ok {N n : Nat} {w : List D} {often : Int} (h : WellOk N w) (hn : n ≤ 100) (hN : N + 4 * n < 2 ^ 60) : ROk (mir__law_spare [.list w, .int (n : Int), .int often]) fun d o => ∃ qs w', d = encRow qs ∧ qs.length = n ∧ (∀ q ∈ qs, Qb 21 q) ∧ o = some (.list w') ∧ WellOk (N + 4 * n) w' := by
  unfold mir__law_spare
  refine ROk.mDef (env := [some _, some _, some _, none, none]) rfl rfl ?_
  unfold body__law_spare
  walk_at "r"
  refine ⟨by omega, ?_⟩
  refine Fine.each_inv (fun r e => ∃ w acc x k, e = [some (.list w), some (.int (n : Int)), some (.int often), some (.list (List.map encQ acc)), x] ∧ k + r.length = n ∧ WellOk (N + 4 * k) w ∧ acc.length = k ∧ ∀ q ∈ acc, Qb 21 q) ?_ ?_ _ _ ?_
  · rintro d r e ⟨w, acc, x, k, rfl, hk, hw, ha, hq⟩
    rw [List.length_cons] at hk
    have nx : ∀ (q : Rat) (w1 : List D), Qb 21 q → WellOk (N + 4 * (k + 1)) w1 → ∃ w acc' x' k', [some (PyData.list w1), some (.int (n : Int)), some (.int often), some (.list (List.map encQ acc ++ [encQ q])), some d] = [some (PyData.list w), some (.int (n : Int)), some (.int often), some (.list (List.map encQ acc')), x'] ∧ k' + r.length = n ∧ WellOk (N + 4 * k') w ∧ acc'.length = k' ∧ ∀ q ∈ acc', Qb 21 q := fun q w1 q1 h1 => by
      refine ⟨w1, acc ++ [q], some d, k + 1, ?_, by omega, h1, by simp [ha], ?_⟩
      · rw [List.map_append]; rfl
      · intro p hp
        rcases List.mem_append.mp hp with z | z
        · exact hq p z
        · rw [List.mem_singleton.mp z]; exact q1
    walk_at "r"
    refine (draw_ok hw (by decide) (by decide) (by omega)).imp ?_
    rintro _ _ ⟨f, w1, rfl, f0, f1, rfl, h1⟩
    walk_at "r"
    refine ⟨fun _ => ?_, fun _ => ?_⟩
    · walk_at "r"
      refine (number_ok h1 (by omega)).imp ?_
      rintro _ _ ⟨q, w2, rfl, hq1, rfl, h2⟩
      walk_at "r"
      exact ⟨decide_eq_true (by rw [List.length_map]; omega), nx q w2 hq1 (h2.mono (by omega))⟩
    · walk_at "r"
      exact ⟨decide_eq_true (by rw [List.length_map]; omega), nx 0 w1 (qb_zero 21 (by decide)) (h1.mono (by omega))⟩
  · rintro e ⟨w, acc, x, k, rfl, hk, hw, ha, hq⟩
    refine .inl ⟨rfl, ?_⟩
    walk_at "r"
    simp only [List.length_nil, Nat.add_zero] at hk
    subst hk
    exact ⟨acc, w, rfl, ha, hq, rfl, hw⟩
  · refine ⟨w, [], none, 0, rfl, ?_, h, rfl, fun q hq => by cases hq⟩
    rw [rngD_len, Nat.zero_add]
theorem lead_ok {N : Nat} {w : List D} (h : WellOk N w) (hN : N < 2 ^ 60) : ROk (mir__law_lead [.list w]) fun d o => ∃ q w', d = encQ q ∧ q ≠ 0 ∧ Qb 21 q ∧ o = some (.list w') ∧ WellOk (N + 3) w' := by
  unfold mir__law_lead
  refine ROk.mDef (env := [some _, none]) rfl rfl ?_
  unfold body__law_lead
  walk_at "r"
  refine (number_ok h hN).imp ?_
  rintro _ _ ⟨q, w1, rfl, hq, rfl, h1⟩
  walk_at "r"
  rw [ne_if]
  refine ⟨fun hc => ?_, fun hc => ?_⟩
  · have hc : q.num ≠ 0 := of_decide_eq_true hc
    walk_at "r"
    exact ⟨q, w1, rfl, fun z => hc (by rw [z]; rfl), hq, rfl, h1⟩
  · walk_at "r"
    exact ⟨1, w1, rfl, by decide, ⟨by decide, by decide⟩, rfl, h1⟩
structure Stair (n s : Nat) (lo hi : List (List Rat)) : Prop where
  ll : lo.length = s
  hl : hi.length = s
  lw : ∀ r ∈ lo, r.length = n ∧ ∀ q ∈ r, Qb 21 q
  hw : ∀ r ∈ hi, r.length = n ∧ ∀ q ∈ r, Qb 21 q
  lt : ∀ i, i < s → ∀ j, i < j → mat lo i j = 0
  ld : ∀ i, i < s → mat lo i i = 1
  ht : ∀ i, i < s → ∀ j, j < i → mat hi i j = 0
  hd : ∀ i, i < s → mat hi i i ≠ 0
theorem mat_app {g : List (List Rat)} {r : List Rat} {i j : Nat} : mat (g ++ [r]) i j = if i < g.length then mat g i j else if i = g.length then r.getD j 0 else 0 := by
  unfold mat
  by_cases h : i < g.length
  · rw [if_pos h]; simp [List.getD, List.getElem?_append, h]
  · rw [if_neg h]
    by_cases h2 : i = g.length
    · rw [if_pos h2, h2]; simp [List.getD]
    · rw [if_neg h2]
      have : (g ++ [r])[i]? = none := List.getElem?_eq_none (by simp; omega)
      simp [List.getD, this]
theorem Stair.next {n s : Nat} {lo hi : List (List Rat)} {a b : List Rat} {q : Rat} (h : Stair n s lo hi) (hs : s < n) (ha : a.length = s) (hb : b.length = n - 1 - s) (qa : ∀ x ∈ a, Qb 21 x) (qb : ∀ x ∈ b, Qb 21 x) (hq : Qb 21 q) (q0 : q ≠ 0) : Stair n (s + 1) (lo ++ [a ++ [1] ++ List.replicate (n - 1 - s) 0]) (hi ++ [List.replicate s 0 ++ [q] ++ b]) where
  ll := by rw [List.length_append, h.ll]; rfl
  hl := by rw [List.length_append, h.hl]; rfl
  lw := fun r hr => by
    rcases List.mem_append.mp hr with hr | hr
    · exact h.lw r hr
    · rw [List.mem_singleton.mp hr]
      refine ⟨by simp; omega, fun x hx => ?_⟩
      rcases List.mem_append.mp hx with hx | hx
      · rcases List.mem_append.mp hx with hx | hx
        · exact qa x hx
        · rw [List.mem_singleton.mp hx]; exact ⟨by decide, by decide⟩
      · rw [List.eq_of_mem_replicate hx]; exact qb_zero 21 (by decide)
  hw := fun r hr => by
    rcases List.mem_append.mp hr with hr | hr
    · exact h.hw r hr
    · rw [List.mem_singleton.mp hr]
      refine ⟨by simp; omega, fun x hx => ?_⟩
      rcases List.mem_append.mp hx with hx | hx
      · rcases List.mem_append.mp hx with hx | hx
        · rw [List.eq_of_mem_replicate hx]; exact qb_zero 21 (by decide)
        · rw [List.mem_singleton.mp hx]; exact hq
      · exact qb x hx
  lt := fun i hi j hj => by
    rw [mat_app, h.ll]
    by_cases c : i < s
    · rw [if_pos c]; exact h.lt i c j hj
    · rw [if_neg c, if_pos (by omega)]
      have e : (a ++ [1] ++ List.replicate (n - 1 - s) 0).getD j 0 = (List.replicate (n - 1 - s) (0 : Rat)).getD (j - (s + 1)) 0 := by
        simp only [List.getD]
        rw [List.getElem?_append_right (by simp; omega)]
        simp [ha]
      rw [e]
      simp only [List.getD, List.getElem?_replicate]
      split <;> rfl
  ld := fun i hi => by
    rw [mat_app, h.ll]
    by_cases c : i < s
    · rw [if_pos c]; exact h.ld i c
    · have : i = s := by omega
      subst this
      rw [if_neg c, if_pos rfl]
      simp [List.getD, ha, List.getElem?_append]
  ht := fun i hi j hj => by
    rw [mat_app, h.hl]
    by_cases c : i < s
    · rw [if_pos c]; exact h.ht i c j hj
    · rw [if_neg c, if_pos (by omega)]
      have : j < s := by omega
      simp [List.getD, List.getElem?_append, this, List.getElem?_replicate]
  hd := fun i hi => by
    rw [mat_app, h.hl]
    by_cases c : i < s
    · rw [if_pos c]; exact h.hd i c
    · have : i = s := by omega
      subst this
      rw [if_neg c, if_pos rfl]
      have e : (List.replicate i (0 : Rat) ++ [q] ++ b).getD i 0 = q := by simp [List.getD, List.getElem?_append]
      rw [e]
      exact q0
theorem Stair.rank {n : Nat} {lo hi : List (List Rat)} (h : Stair n n lo hi) : rk n n (mul n (mat lo) (mat hi)) = n := by
  obtain ⟨V, hV⟩ := tri_inv (mat hi) n h.hd h.ht
  obtain ⟨U, hU⟩ := tri_inv (tr (mat lo)) n (fun i hi' => by show mat lo i i ≠ 0; rw [h.ld i hi']; decide) fun i hi' j hj => h.lt j (by omega) i hj
  have i1 : Inv n (mat hi) V := Inv.of hV
  have i2 : Inv n (mat lo) (tr U) := Inv.ofl (fun i hi' j hj => by
    have := hU j hj i hi'
    rw [dl_comm] at this
    rw [← this]
    show sm n _ = sm n _
    refine sm_congr fun t ht => ?_
    show U t i * mat lo t j = mat lo t j * U t i
    exact Rat.mul_comm _ _)
  rw [rk_lmul i2]
  exact i1.rk
end Mir
/-! Drawn regular tables: stairs times stairs, rows in any order. -/
namespace Mir
open PySem L2 ML LA
theorem pick4 {d : D} (h : d ∈ [PyData.int 0, .int 0, .int 2, .int 3]) : ∃ i, d = .int i := by
  simp only [List.mem_cons, List.not_mem_nil, or_false] at h
  rcases h with rfl | rfl | rfl | rfl <;> exact ⟨_, rfl⟩
theorem stairs_ok {N n : Nat} {w : List D} (h : WellOk N w) (n0 : 0 < n) (hn : n ≤ 5) (hN : N < 2 ^ 59) : ROk (mir__law_stairs [.list w, .int (n : Int)]) fun d o => ∃ g w', d = encTab g ∧ Grid n n 216 g ∧ rk n n (mat g) = n ∧ o = some (.list w') ∧ WellOk (N + 300) w' := by
  unfold mir__law_stairs
  refine ROk.mDef (env := [some _, some _, none, none, none, none, none]) rfl rfl ?_
  unfold body__law_stairs
  walk_at "m"
  refine (pick_ok h (by omega) (by decide) (by decide)).imp ?_
  rintro _ _ ⟨w1, hm1, rfl, h1⟩
  obtain ⟨p1, rfl⟩ := pick4 hm1
  walk_at "m"
  refine (pick_ok h1 (by omega) (by decide) (by decide)).imp ?_
  rintro _ _ ⟨w2, hm2, rfl, h2⟩
  obtain ⟨p2, rfl⟩ := pick4 hm2
  walk_at "m"
  refine ⟨by omega, ?_⟩
  refine Fine.each_rng0 (fun s e => ∃ (w : List D) (lo hi : List (List Rat)) (x : Option D), e = [some (.list w), some (.int (n : Int)), some (.list (lo.map encRow)), some (.list (hi.map encRow)), some (.int p1), some (.int p2), x] ∧ Stair n s lo hi ∧ WellOk (N + 2 + 45 * s) w) n ?_ ?_ _ ?_
  · rintro s e hs ⟨w, lo, hi, x, rfl, st, hw⟩
    have l1 := st.ll
    have l2 := st.hl
    have e1 : ((n : Int) - 1) - (s : Int) = ((n - 1 - s : Nat) : Int) := by omega
    walk_at "m"
    refine (spare_ok hw (by omega) (by omega)).imp ?_
    rintro _ _ ⟨a, w3, rfl, al, aq, rfl, h3⟩
    walk_at "m"
    rw [e1]
    walk_at "m"
    refine ⟨decide_eq_true (by rw [List.length_map]; omega), ?_⟩
    walk_at "m"
    refine (lead_ok h3 (by omega)).imp ?_
    rintro _ _ ⟨q, w4, rfl, q0, qq, rfl, h4⟩
    walk_at "m"
    rw [e1]
    refine (spare_ok h4 (by omega) (by omega)).imp ?_
    rintro _ _ ⟨b, w5, rfl, bl, bq, rfl, h5⟩
    walk_at "m"
    refine ⟨decide_eq_true (by rw [List.length_map]; omega), ?_⟩
    have m1 : ∀ (l : List (List Rat)) (r : List Rat), List.map encRow l ++ [encRow r] = List.map encRow (l ++ [r]) := fun l r => by rw [List.map_append]; rfl
    rw [m1, m1]
    exact ⟨w5, _, _, _, rfl, st.next hs al bl aq bq qq q0, h5.mono (by omega)⟩
  · rintro e ⟨w, lo, hi, x, rfl, st, hw⟩
    refine .inl ⟨rfl, ?_⟩
    have gl : Grid n n 21 lo := ⟨st.ll, fun r hr => (st.lw r hr).1, fun r hr => (st.lw r hr).2⟩
    have gh : Grid n n 21 hi := ⟨st.hl, fun r hr => (st.hw r hr).1, fun r hr => (st.hw r hr).2⟩
    have hb : (2 * 21 + 1) * n < 20000000 := by omega
    walk_at "m"
    refine ROk.of_eq (lmul_eq gl gh (by omega) n0 (by omega) (by omega) hb) ?_
    refine ⟨_, w, rfl, (gl.mul gh hb).mono (by omega), ?_, rfl, hw.mono (by omega)⟩
    rw [rk_congr (mat_mul gl gh)]
    exact st.rank
  · exact ⟨w2, [], [], none, rfl, ⟨rfl, rfl, (fun r hr => by cases hr), (fun r hr => by cases hr), (fun i hi => by omega), (fun i hi => by omega), (fun i hi => by omega), (fun i hi => by omega)⟩, h2⟩
theorem Fine.popAt {e : ME} {Q : D → ME → Prop} {i : Nat} {f : M D} {ds : List D} (h : e[i]? = some (some (.list ds))) (q : Fine (f e) fun k e1 => ∃ es, e1[i]? = some (some (.list es)) ∧ ∃ j : Nat, k = .int (j : Int) ∧ j < 2 ^ 60 ∧ ∃ hj : j < es.length, Q es[j] (e1.set i (some (.list (es.eraseIdx j))))) : Fine (mPopAt i f e) Q := by
  refine Fine.atS h (Fine.bnd (q.imp fun k e1 ⟨es, h1, j, hk, j60, hj, q⟩ => ?_))
  subst hk
  refine Fine.withS h1 ?_
  have e2 : dPopAt (j : Int) es = some (es[j], es.eraseIdx j) := by
    unfold dPopAt
    rw [if_pos (near_nat j60)]
    have : seqIndex? (j : Int) es.length = some j := by
      unfold seqIndex?
      simp
      omega
    rw [this]
    simp [hj]
  simp only [e2]
  exact Fine.bnd ⟨_, _, rfl, Fine.ret q⟩
theorem rk_mem {f g : List (List Rat)} {w : Nat} (h : ∀ r ∈ f, r ∈ g) : rk f.length w (mat f) ≤ rk g.length w (mat g) := by
  have : ∀ i, ∃ k, i < f.length → k < g.length ∧ f.getD i [] = g.getD k [] := fun i => by
    by_cases hi : i < f.length
    · obtain ⟨k, hk, e⟩ := List.getElem_of_mem (h _ (getD_memR hi))
      exact ⟨k, fun _ => ⟨hk, by rw [← e]; simp [List.getD, hk]⟩⟩
    · exact ⟨0, fun h => absurd h hi⟩
  obtain ⟨φ, hφ⟩ := Classical.axiomOfChoice this
  have e : Eqm f.length w (mat f) fun i j => mat g (φ i) (id j) := fun i hi j hj => by
    show (f.getD i []).getD j 0 = (g.getD (φ i) []).getD j 0
    rw [(hφ i hi).2]
  rw [rk_congr e]
  exact rk_part (mat g) (fun i hi => (hφ i hi).1) fun j hj => hj
end Mir
/-! Drawn regular tables: rows in any order; lots beside; all lots. -/
namespace Mir
open PySem L2 ML LA
theorem mem_erase {es : List (List Rat)} {j : Nat} (hj : j < es.length) : (∀ r ∈ es, r = es[j] ∨ r ∈ es.eraseIdx j) ∧ ∀ r ∈ es.eraseIdx j, r ∈ es := by
  have e1 : es = es.take j ++ es[j] :: es.drop (j + 1) := by simp
  have e2 : es.eraseIdx j = es.take j ++ es.drop (j + 1) := List.eraseIdx_eq_take_drop_succ ..
  constructor
  · intro r hr
    rw [e2]
    rw [e1] at hr
    simp only [List.mem_append, List.mem_cons] at hr ⊢
    rcases hr with h | h | h
    · exact .inr (.inl h)
    · exact .inl h
    · exact .inr (.inr h)
  · intro r hr
    exact List.mem_of_mem_eraseIdx hr
theorem mixed_ok {N n b : Nat} {w : List D} {g : List (List Rat)} (h : WellOk N w) (hg : Grid n n b g) (hr : rk n n (mat g) = n) (hn : n ≤ 5) (hN : N < 2 ^ 59) : ROk (mir__law_mixed [.list w, encTab g]) fun d o => ∃ f w', d = encTab f ∧ Grid n n b f ∧ rk n n (mat f) = n ∧ o = some (.list w') ∧ WellOk (N + 10) w' := by
  have gl := hg.tall
  unfold mir__law_mixed
  refine ROk.mDef (env := [some _, some _, none, none, none]) rfl rfl ?_
  unfold body__law_mixed
  walk_at "m"
  refine ⟨by rw [List.length_map]; omega, ?_⟩
  rw [List.length_map]
  refine Fine.each_rng0 (fun s e => ∃ (w : List D) (es f : List (List Rat)) (x : Option D), e = [some (.list w), some (encTab g), some (.list (es.map encRow)), some (.list (f.map encRow)), x] ∧ es.length + s = n ∧ f.length = s ∧ (∀ r ∈ f, r ∈ g) ∧ (∀ r ∈ es, r ∈ g) ∧ (∀ r ∈ g, r ∈ f ∨ r ∈ es) ∧ WellOk (N + s) w) g.length ?_ ?_ _ ?_
  · rintro s e hs ⟨w, es, f, x, rfl, hel, hfl, hfg, heg, hge, hw⟩
    walk_at "m"
    refine Fine.popAt rfl ?_
    walk_at "m"
    rw [List.length_map]
    refine (draw_ok hw (by omega) (by omega) (by omega)).imp ?_
    rintro _ _ ⟨k, w1, rfl, k0, k1, rfl, h1⟩
    obtain ⟨j, rfl⟩ : ∃ j : Nat, k = (j : Int) := ⟨k.toNat, by omega⟩
    have hj : j < es.length := by omega
    walk_at "m"
    refine ⟨by omega, by rw [List.length_map]; exact hj, ?_⟩
    obtain ⟨m1, m2⟩ := mem_erase hj
    walk_at "m"
    refine ⟨decide_eq_true (by rw [List.length_map]; omega), ?_⟩
    have e1 : (es.map encRow).eraseIdx j = (es.eraseIdx j).map encRow := by
      rw [List.eraseIdx_eq_take_drop_succ, List.eraseIdx_eq_take_drop_succ, List.map_append, List.map_take, List.map_drop]
    have e2 : f.map encRow ++ [(es.map encRow)[j]'(by rw [List.length_map]; exact hj)] = (f ++ [es[j]]).map encRow := by rw [List.map_append, List.getElem_map]; rfl
    rw [e1, e2]
    refine ⟨w1, es.eraseIdx j, f ++ [es[j]], _, rfl, ?_, by simp; omega, ?_, fun r hr => heg r (m2 r hr), ?_, h1⟩
    · rw [List.length_eraseIdx, if_pos hj]; omega
    · intro r hr
      rcases List.mem_append.mp hr with hr | hr
      · exact hfg r hr
      · rw [List.mem_singleton.mp hr]; exact heg _ (List.getElem_mem hj)
    · intro r hr
      rcases hge r hr with hr | hr
      · exact .inl (List.mem_append_left _ hr)
      · rcases m1 r hr with rfl | hr
        · exact .inl (List.mem_append_right _ (List.mem_singleton.mpr rfl))
        · exact .inr hr
  · rintro e ⟨w, es, f, x, rfl, hel, hfl, hfg, heg, hge, hw⟩
    refine .inl ⟨rfl, ?_⟩
    have es0 : es = [] := List.eq_nil_of_length_eq_zero (by omega)
    subst es0
    walk_at "m"
    have gf : Grid n n b f := ⟨by omega, fun r hr => hg.wide r (hfg r hr), fun r hr => hg.qb r (hfg r hr)⟩
    refine ⟨f, w, rfl, gf, ?_, rfl, hw.mono (by omega)⟩
    have h1 := rk_mem (f := g) (g := f) (w := n) fun r hr => (hge r hr).resolve_right (by simp)
    rw [gl, hfl, gl, hr] at h1
    have := (rk_ok n n (mat f)).le_rows
    omega
  · exact ⟨w, g, [], none, rfl, by omega, rfl, (fun r hr => by cases hr), (fun r hr => hr), (fun r hr => .inr hr), h⟩
theorem lregular_ok {N n : Nat} {w : List D} (h : WellOk N w) (n0 : 0 < n) (hn : n ≤ 5) (hN : N < 2 ^ 58) : ROk (mir__law_regular [.list w, .int (n : Int)]) fun d o => ∃ g w', d = encTab g ∧ Grid n n 216 g ∧ rk n n (mat g) = n ∧ o = some (.list w') ∧ WellOk (N + 400) w' := by
  unfold mir__law_regular
  refine ROk.mDef (env := [some _, some _, none]) rfl rfl ?_
  unfold body__law_regular
  walk_at "m"
  refine (stairs_ok h n0 hn (by omega)).imp ?_
  rintro _ _ ⟨g, w1, rfl, hg, hr, rfl, h1⟩
  walk_at "m"
  refine (draw_ok h1 (by decide) (by decide) (by omega)).imp ?_
  rintro _ _ ⟨k, w2, rfl, k0, k1, rfl, h2⟩
  walk_at "m"
  refine ⟨fun _ => ?_, fun _ => ?_⟩
  · walk_at "m"
    refine (mixed_ok h2 hg hr hn (by omega)).imp ?_
    rintro _ _ ⟨f, w3, rfl, hf, hr2, rfl, h3⟩
    walk_at "m"
    exact ⟨f, w3, rfl, hf, hr2, rfl, h3.mono (by omega)⟩
  · walk_at "m"
    exact ⟨g, w2, rfl, hg, hr, rfl, h2.mono (by omega)⟩
end Mir
/-! The program's inverse. -/
namespace Mir
open PySem L2 ML LA
theorem asc_id {p : List Nat} {n : Nat} (h : p.Pairwise (· < ·)) (hl : p.length = n) (hb : ∀ j ∈ p, j < n) : ∀ i, i < n → p.getD i 0 = i := by
  have up : ∀ i k, i + k < n → p.getD i 0 + k ≤ p.getD (i + k) 0 := fun i k => by
    induction k with
    | zero => intro _; exact Nat.le_refl _
    | succ k ih =>
      intro hk
      have h1 := ih (by omega)
      have h2 := pw_get h (i := i + k) (j := i + k + 1) (by omega) (by omega)
      rw [show i + (k + 1) = i + k + 1 by omega]
      omega
  intro i hi
  have h1 := up 0 i (by omega)
  have h2 := up i (n - 1 - i) (by omega)
  have h3 : p.getD (i + (n - 1 - i)) 0 < n := hb _ (getD_mem (by omega))
  rw [Nat.zero_add] at h1
  omega
theorem _root_.LA.StB.doneW {m n b w : Nat} {A : Mx} {W V : ZT} {p : List Nat} {lead : Int} (h : StB m n b A w W V p lead) (hw : w ≤ n) : rk m w A = p.length := by
  obtain ⟨T, hT⟩ := h.re.to
  obtain ⟨S, hS⟩ := h.re.back
  have re : RE m w A (matZ W) := ⟨⟨T, fun i hi j hj => hT i hi j (by omega)⟩, ⟨S, fun i hi j hj => hS i hi j (by omega)⟩⟩
  rw [re.rk]
  have km := h.st.km
  refine ech_rk (p := fun i => p.getD i 0) km h.ps (fun i hi => ?_) (fun i hi j hj => ?_) fun i h1 h2 j hj => ?_
  · rw [h.st.piv i (by omega) i hi, if_pos rfl]; exact h.st.l0
  · rw [h.st.piv i (by omega) j (by omega), if_neg (by omega)]
  · show ((ent W i j : Int) : Rat) = 0
    rw [h.low i h1 h2 j hj]; rfl
/-- rows with a table on the left that is regular, swept over it -/
theorem swept_inv {rows : List (List Rat)} {A E : Mx} {n N b : Nat} {W V : ZT} {p : List Nat} {lead : Int} (h : StB rows.length N b (matZ (rows.map whq)) n W V p lead) (hr : rows.length = n) (hn : n ≤ N)
    (hA : ∀ i, i < n → ∀ j, j < n → mat rows i j = A i j) (hE : ∀ i, i < n → ∀ j, n + j < N → mat rows i (n + j) = E i j) :
    p.length = rk n n A ∧ (rk n n A = n → ∃ T, Eqm n n (mul n T A) dl ∧ ∀ i, i < n → ∀ j, n + j < N → matZ W i (n + j) / (lead : Rat) = mul n T E i j) := by
  subst hr
  have e1 : Eqm rows.length rows.length (mat rows) A := hA
  obtain ⟨T0, hT0⟩ := (re_whq rows N).to
  obtain ⟨S0, hS0⟩ := (re_whq rows N).back
  have re : RE rows.length rows.length (mat rows) (matZ (rows.map whq)) := ⟨⟨T0, fun i hi j hj => hT0 i hi j (by omega)⟩, ⟨S0, fun i hi j hj => hS0 i hi j (by omega)⟩⟩
  have hp : p.length = rk rows.length rows.length A := by rw [← rk_congr e1, re.rk, h.doneW hn]
  refine ⟨hp, fun hk => ?_⟩
  rw [hk] at hp
  obtain ⟨T, hT⟩ := ((re_whq rows N).trans h.re).to
  have id := asc_id h.inc hp (mem_ps h)
  have l0 := h.st.l0
  refine ⟨fun i t => T i t / (lead : Rat), fun i hi j hj => ?_, fun i hi j hj => ?_⟩
  · have w1 := h.st.piv i hi j (by omega)
    rw [id j hj] at w1
    have w2 := hT i hi j (by omega)
    rw [w1] at w2
    have e : mul rows.length (fun i t => T i t / (lead : Rat)) A i j = mul rows.length T (mat rows) i j / (lead : Rat) := by
      show sm _ _ = sm _ _ / _
      rw [Rat.div_def, ← sm_mulr]
      refine sm_congr fun t ht => ?_
      rw [hA t ht j hj]
      show T i t / (lead : Rat) * A t j = _
      rw [Rat.div_def]
      grind
    rw [e, ← w2]
    unfold dl
    split
    · grind
    · grind
  · rw [hT i hi (rows.length + j) hj]
    show sm _ _ / _ = sm _ _
    rw [Rat.div_def, ← sm_mulr]
    refine sm_congr fun t ht => ?_
    rw [hE t ht j hj]
    show _ = T i t / (lead : Rat) * E t j
    rw [Rat.div_def]
    grind
def unitR (n k : Nat) : List Rat := (List.range n).map fun j => if j = k then 1 else 0
theorem unit_eq {n k : Nat} (hn : n ≤ 1000) : mir_unit_row [.int (n : Int), .int (k : Int)] = .ok (encRow (unitR n k)) none := by
  refine ROk.eq ?_
  unfold mir_unit_row
  refine ROk.mDef (env := [some _, some _, none]) rfl rfl ?_
  unfold body_unit_row
  walk_at "m"
  refine Fine.tupG_en (List.range n) enI (fun j => encQ (if j = k then 1 else 0)) ?_ (by rw [List.length_range]; omega) ?_ ?_
  · refine Fine.range1N ?_
    walk_at "m"
    exact ⟨by omega, rfl, rfl⟩
  · intro j hj
    walk_at "m"
    rw [eq_ifN]
    refine ⟨fun hc => ?_, fun hc => ?_⟩
    · walk_at "m"
      rw [if_pos (of_decide_eq_true hc)]
      exact ⟨rfl, rfl⟩
    · walk_at "m"
      rw [if_neg (of_decide_eq_false hc)]
      exact ⟨rfl, rfl⟩
  · refine ⟨?_, rfl⟩
    unfold encRow unitR
    rw [List.map_map]
    rfl
theorem checkSq {n b : Nat} {g : List (List Rat)} (h : Grid n n b g) (n0 : 0 < n) (hn : n ≤ 6) : mir_check_square [encTab g] = .ok .none none := by
  have sq : mir_is_square [encTab g] = .ok (.bool true) none := by
    refine ROk.eq ?_
    unfold mir_is_square
    refine ROk.mDef (env := [some _]) rfl rfl ?_
    unfold body_is_square
    walk_at "m"
    refine ROk.of_eq (isTb_eq _) ?_
    rw [isTb_enc h n0 hn n0 hn]
    refine ⟨true, rfl, fun _ => ?_, fun z => by cases z⟩
    walk_at "m"
    refine ⟨_, dIx_tab (i := 0) (by rw [h.tall]; exact n0), ?_⟩
    walk_at "m"
    rw [List.length_map, List.length_map, h.tall, (h.row n0).1, eq_ifN, decide_eq_true rfl]
    exact ⟨rfl, rfl⟩
  refine ROk.eq ?_
  unfold mir_check_square
  refine ROk.mDef (env := [some _]) rfl rfl ?_
  unfold body_check_square
  walk_at "m"
  refine ROk.of_eq sq ?_
  walk_at "m"
  exact ⟨rfl, rfl, rfl⟩
end Mir
/-! The program's inverse, to its end. -/
namespace Mir
open PySem L2 ML LA
theorem qb_one (b : Nat) (h : 1 ≤ b) : Qb b 1 := Qb.mono ⟨by decide, by decide⟩ (show 1 ≤ b from h)
theorem unitR_ok {n k b : Nat} (hb : 1 ≤ b) : (unitR n k).length = n ∧ ∀ q ∈ unitR n k, Qb b q := by
  unfold unitR
  refine ⟨by simp, fun q hq => ?_⟩
  obtain ⟨j, _, rfl⟩ := List.mem_map.mp hq
  split
  · exact qb_one b hb
  · exact qb_zero b hb
theorem unitR_get {n k j : Nat} (h : j < n) : (unitR n k).getD j 0 = dl k j := by
  unfold unitR
  rw [getD_map (d := 0) (by rw [List.length_range]; exact h), getD_range h]
  unfold dl
  by_cases c : j = k
  · rw [if_pos c, if_pos c.symm]
  · rw [if_neg c, if_neg (Ne.symm c)]
theorem Fine.zipTL {e : ME} {Q : List D → ME → Prop} {a : M (List D)} (h : Fine (a e) fun ds e1 => ∃ xs ys, ds = [.tuple xs, .list ys] ∧ Q ((xs.zip ys).map fun p => .tuple [p.1, p.2]) e1) : Fine (mZip a e) Q :=
  Fine.bnd (h.imp fun ds e1 ⟨xs, ys, hd, q⟩ => by subst hd; exact Fine.ret q)
def joinU (n : Nat) (g : List (List Rat)) : List (List Rat) := (g.zip (List.range n)).map fun z => z.1 ++ unitR n z.2
theorem over_gridW {m n b s c : Nat} {A : Mx} {W V : ZT} {p : List Nat} {lead : Int} (h : StB m n b A s W V p lead) (hp : 0 < p.length) (hs : s ≤ n) (hc : (b + 1) * 2 ^ p.length ≤ c) : Grid p.length n c (overR lead (W.take p.length)) ∧ Eqm p.length n (mat (overR lead (W.take p.length))) fun a j => matZ W a j / (lead : Rat) := by
  have km := h.st.km
  have hW := h.tall
  have hl : lead ≠ 0 := fun z => h.st.l0 (by rw [z]; rfl)
  have le := hc
  have le2 : 2 ^ ((b + 1) * 2 ^ p.length) ≤ 2 ^ c := Nat.pow_le_pow_right (by decide) le
  have pos := Nat.two_pow_pos c
  have ld : lead.natAbs < 2 ^ c := by
    have e := h.st.piv 0 (by omega) 0 hp
    rw [if_pos rfl] at e
    have e : ent W 0 (p.getD 0 0) = lead := z_eq e
    have hj : p.getD 0 0 < (row W 0).length := by rw [h.wide 0 (by omega)]; exact Nat.lt_of_lt_of_le (h.ps 0 hp) hs
    have e2 : (row W 0).getD (p.getD 0 0) 0 = lead := e
    have := h.bits 0 (by omega) lead (by rw [← e2]; exact getD_mem hj)
    omega
  have rw_ : ∀ a, a < p.length → (overR lead (W.take p.length)).getD a [] = (row W a).map fun x => Rat.divInt x lead := fun a ha => by
    unfold overR row
    have : a < W.length := by omega
    simp [List.getD, ha, this]
  refine ⟨⟨?_, ?_, ?_⟩, ?_⟩
  · unfold overR
    rw [List.length_map, List.length_take]
    omega
  · intro r hr
    unfold overR at hr
    obtain ⟨s, hs, rfl⟩ := List.mem_map.mp hr
    obtain ⟨i, hi, rfl⟩ := List.getElem_of_mem (List.mem_of_mem_take hs)
    rw [List.length_map]
    have := h.wide i (by omega)
    unfold row at this
    simpa [List.getD, hi] using this
  · intro r hr q hq
    unfold overR at hr
    obtain ⟨s, hs, rfl⟩ := List.mem_map.mp hr
    obtain ⟨i, hi, rfl⟩ := List.getElem_of_mem (List.mem_of_mem_take hs)
    obtain ⟨x, hx, rfl⟩ := List.mem_map.mp hq
    have e : W[i] = row W i := by unfold row; simp [List.getD, hi]
    rw [e] at hx
    have := h.bits i (by omega) x hx
    exact qb_divInt hl (by omega) ld
  · intro a ha j hj
    show ((overR lead (W.take p.length)).getD a []).getD j 0 = ((ent W a j : Int) : Rat) / (lead : Rat)
    rw [rw_ a ha]
    have hr := h.wide a (by omega)
    rw [getD_map (d := 0) (by omega), Rat.divInt_eq_div]
    rfl
theorem inverse_ok {n b : Nat} {g : List (List Rat)} (h : Grid n n b g) (n0 : 0 < n) (hn : n ≤ 5) (hr : rk n n (mat g) = n) (hb : b ≤ 216) (b1 : 1 ≤ b) : ROk (mir_inverse [encTab g]) fun d o => o = none ∧ ∃ g', d = encTab g' ∧ Grid n n 80000 g' ∧ Inv n (mat g) (mat g') := by
  have gl := h.tall
  unfold mir_inverse
  refine ROk.mDef (env := [some _, none, none]) rfl rfl ?_
  unfold body_inverse
  walk_at "m"
  refine ROk.of_eq (checkSq h n0 (by omega)) ?_
  walk_at "m"
  rw [List.length_map, gl]
  refine Fine.comp_en (List.range n) enI (fun k => encRow (unitR n k)) ?_ (by rw [List.length_range]; omega) ?_ ?_
  · refine Fine.range1N ?_
    walk_at "m"
    exact ⟨by omega, rfl, rfl⟩
  · intro k hk
    walk_at "m"
    refine ROk.of_eq (unit_eq (by omega)) ?_
    exact ⟨rfl, rfl⟩
  walk_at "m"
  suffices hes : ROk (mir__ends_swept [encTab g, .list ((List.range n).map fun k => encRow (unitR n k))]) fun d o => o = none ∧ ∃ g', d = encTab g' ∧ Grid n n 80000 g' ∧ Inv n (mat g) (mat g') by
    refine hes.imp ?_
    rintro _ _ ⟨rfl, h⟩
    exact ⟨rfl, h⟩
  have jl : (joinU n g).length = n := by unfold joinU; rw [List.length_map, List.length_zip, gl, List.length_range, Nat.min_self]
  have jr : ∀ i, i < n → (joinU n g).getD i [] = g.getD i [] ++ unitR n i := fun i hi => by
    unfold joinU
    rw [getD_map (d := ([], 0)) (by rw [List.length_zip, gl, List.length_range, Nat.min_self]; exact hi)]
    have e : (g.zip (List.range n)).getD i ([], 0) = (g.getD i [], i) := by
      simp [List.getD, List.getElem?_zip_eq_some, gl, hi]
    rw [e]
  have jm : ∀ r ∈ joinU n g, r.length = n + n ∧ ∀ q ∈ r, Qb 216 q := fun r hr => by
    obtain ⟨i, hi, rfl⟩ := List.getElem_of_mem hr
    have e := jr i (by omega)
    have e2 : (joinU n g)[i] = (joinU n g).getD i [] := by simp [List.getD, hi]
    obtain ⟨u1, u2⟩ := unitR_ok (n := n) (k := i) (b := 216) (by decide)
    obtain ⟨r1, r2⟩ := h.row (i := i) (by omega)
    rw [e2, e]
    refine ⟨by rw [List.length_append, r1, u1], fun q hq => ?_⟩
    rcases List.mem_append.mp hq with hq | hq
    · exact (h.qb _ r2 q hq).mono hb
    · exact u2 q hq
  have m1 : ∀ i, i < n → ∀ j, j < n → mat (joinU n g) i j = mat g i j := fun i hi j hj => by
    unfold mat
    rw [jr i hi]
    have r1 := (h.row (i := i) (by omega)).1
    simp only [List.getD]
    rw [List.getElem?_append_left (by simp only [List.getD] at r1; omega)]
  have m2 : ∀ i, i < n → ∀ j, n + j < n + n → mat (joinU n g) i (n + j) = dl i j := fun i hi j hj => by
    have r1 := (h.row (i := i) (by omega)).1
    show ((joinU n g).getD i []).getD (n + j) 0 = _
    rw [jr i hi, ← unitR_get (n := n) (k := i) (j := j) (by omega)]
    simp only [List.getD] at r1 ⊢
    rw [List.getElem?_append_right (by omega), show n + j - (g[i]?.getD []).length = j by omega]
  unfold mir__ends_swept
  refine ROk.mDef (env := [some _, some _, none, none, none, none, none, none]) rfl rfl ?_
  unfold body__ends_swept
  walk_at "m"
  rw [List.length_map, gl]
  refine Fine.comp_en (g.zip (List.range n)) (fun z => PyData.tuple [encRow z.1, encRow (unitR n z.2)]) (fun z => encRow (z.1 ++ unitR n z.2)) ?_ (by rw [List.length_zip]; omega) ?_ ?_
  · refine Fine.zipTL ?_
    walk_at "m"
    refine ⟨_, _, rfl, ?_, rfl⟩
    rw [show g.map encRow = g.map encRow from rfl, List.zip_map, List.map_map]
    rfl
  · intro z hz
    obtain ⟨h1, h2⟩ := List.of_mem_zip (a := z.1) (b := z.2) hz
    have l1 := h.wide _ h1
    have l2 := (unitR_ok (n := n) (k := z.2) (b := 1) (by decide)).1
    walk_at "m"
    rfl
  walk_at "m"
  have ej : PyData.list ((g.zip (List.range n)).map fun z => encRow (z.1 ++ unitR n z.2)) = .list ((joinU n g).map encRow) := by
    unfold joinU
    rw [List.map_map]
    rfl
  rw [ej]
  have p5 : 2 ^ n ≤ 2 ^ 5 := Nat.pow_le_pow_right (by decide) hn
  have B : 216 * (n + n + 1) ≤ 2376 := by omega
  have B2 : (216 * (n + n + 1) + 1) * 2 ^ n ≤ 2377 * 2 ^ 5 := Nat.mul_le_mul (by omega) p5
  refine (reduced_gen (d := .list ((joinU n g).map encRow)) (g := joinU n g) (b := 216) (n := n + n) (w := n) (.inr rfl) (fun r hr => (jm r hr).1) (fun r hr => (jm r hr).2) (by omega) (by omega) (by omega) (by omega) (by rw [jl]; omega)).imp ?_
  rintro _ _ ⟨rfl, W, V, p, lead, rfl, st⟩
  obtain ⟨hp, hT⟩ := swept_inv (A := mat g) (E := dl) st jl (by omega) m1 m2
  obtain ⟨T, hT1, hT2⟩ := hT hr
  rw [hr] at hp
  have og := over_gridW st (by omega) (by omega) (c := 80000) (by rw [hp]; omega)
  rw [hp] at og
  unfold encIx
  walk_at "m"
  rw [List.length_map, hp]
  refine ⟨fun z => absurd (of_decide_eq_true z) (by omega), fun _ => ?_⟩
  have wd := og.1.wide
  have tl := og.1.tall
  generalize hY : overR lead (W.take n) = Y at *
  walk_at "r"
  refine Fine.tupG_en Y encRow (fun r => encRow (r.drop n)) ?_ (by omega) ?_ ?_
  · walk_at "m"
    rfl
  · intro r hr
    have rl := wd r hr
    walk_at "m"
    have e : cutD (r.map encQ) (some (n : Int)) none = (r.drop n).map encQ := by rw [cut_from (by rw [List.length_map]; omega), List.map_drop]
    rw [e]
    exact ⟨rfl, rfl⟩
  have e2 : PyData.tuple (Y.map fun r => encRow (r.drop n)) = encTab (Y.map fun r => r.drop n) := by
    unfold encTab
    rw [List.map_map]
    rfl
  rw [e2]
  refine ⟨rfl, _, rfl, ⟨by rw [List.length_map, tl], fun r hr => ?_, fun r hr q hq => ?_⟩, ?_⟩
  · obtain ⟨s, hs, rfl⟩ := List.mem_map.mp hr
    rw [List.length_drop, wd s hs]
    omega
  · obtain ⟨s, hs, rfl⟩ := List.mem_map.mp hr
    exact og.1.qb s hs q (List.mem_of_mem_drop hq)
  · refine Inv.ofl ?_
    have ee : Eqm n n (mat (Y.map fun r => r.drop n)) T := fun i hi j hj => by
      have a1 : mat (Y.map fun r => r.drop n) i j = mat Y i (n + j) := by
        unfold mat
        rw [getD_map (d := []) (by omega)]
        simp [List.getD]
      rw [a1, og.2 i hi (n + j) (by omega)]
      show matZ W i (n + j) / (lead : Rat) = _
      rw [hT2 i hi j (by omega)]
      exact mul_dl T i hi j hj
    exact (Eqm.mul ee Eqm.refl).trans hT1
end Mir
/-! Determinants along any row; the inverse by minors. -/
namespace LA
theorem det_row (n : Nat) (A : Mx) {k : Nat} (hk : k < n + 1) : det (n + 1) A = sm (n + 1) fun j => sg (j + k) * A k j * det n (fun i l => A (skip k i) (skip j l)) := by
  have e1 : det (n + 1) (mul (n + 1) (cyc k) A) = sg k * det (n + 1) A := by
    rw [det_mul, (det_alt (n + 1)).cyc k hk, det_dl]
    grind
  have row0 : ∀ j, mul (n + 1) (cyc k) A 0 j = A k j := fun j => sm_dl_l (f := fun t => A t j) hk
  have rowS : ∀ i, i < n → ∀ j, mul (n + 1) (cyc k) A (i + 1) j = A (skip k i) j := fun i hi j => sm_dl_l (f := fun t => A t j) (skip_lt hi)
  have e2 : det (n + 1) (mul (n + 1) (cyc k) A) = sm (n + 1) fun j => sg j * A k j * det n (fun i l => A (skip k i) (skip j l)) := by
    refine sm_congr fun j hj => ?_
    rw [row0, det_congr n (fun i hi l hl => rowS i hi (skip j l))]
  have s := sg_sq k
  have e3 : det (n + 1) A = sg k * sm (n + 1) fun j => sg j * A k j * det n (fun i l => A (skip k i) (skip j l)) := by
    rw [← e2, e1]
    grind
  rw [e3, ← sm_mul]
  refine sm_congr fun j hj => ?_
  rw [sg_add]
  grind
def cof (n : Nat) (W : Mx) : Mx := fun a t => sg (a + t) * det n (fun i l => W (skip t i) (skip a l))
theorem cof_mul (n : Nat) (W : Mx) : ∀ i, i < n + 1 → ∀ k, k < n + 1 → mul (n + 1) W (cof n W) i k = dl i k * det (n + 1) W := fun i hi k hk => by
  have e : mul (n + 1) W (cof n W) i k = det (n + 1) (up W k (W i)) := by
    rw [det_row n (up W k (W i)) hk]
    refine sm_congr fun j hj => ?_
    rw [up_at, det_congr n (A := fun i_1 l => up W k (W i) (skip k i_1) (skip j l)) (B := fun i_1 l => W (skip k i_1) (skip j l)) fun a ha l hl => up_ne _ _ (skip_ne k a) _]
    unfold cof
    grind
  rw [e]
  by_cases c : i = k
  · subst c
    rw [up_self, dl_self]
    grind
  · rw [dl_ne c, (det_alt (n + 1)).zero' (A := up W k (W i)) hi hk c fun j _ => by rw [up_at, up_ne _ _ c]]
    grind
/-- rows times whole numbers: the inverse by minors -/
theorem cof_inv {n : Nat} {A W : Mx} {c : Nat → Rat} (hc : ∀ i, i < n + 1 → c i ≠ 0) (hW : ∀ i, i < n + 1 → ∀ j, j < n + 1 → W i j = A i j * c i) (hd : det (n + 1) W ≠ 0) :
    Eqm (n + 1) (n + 1) (mul (n + 1) A fun a t => cof n W a t * c t / det (n + 1) W) dl := fun i hi k hk => by
  have h := cof_mul n W i hi k hk
  have e : mul (n + 1) W (cof n W) i k = c i * sm (n + 1) fun a => A i a * cof n W a k := by
    rw [← sm_mul]
    refine sm_congr fun a ha => ?_
    rw [hW i hi a ha]
    grind
  have e2 : mul (n + 1) A (fun a t => cof n W a t * c t / det (n + 1) W) i k = (sm (n + 1) fun a => A i a * cof n W a k) * (c k / det (n + 1) W) := by
    rw [← sm_mulr]
    refine sm_congr fun a ha => ?_
    show A i a * (cof n W a k * c k / det (n + 1) W) = _
    rw [Rat.div_def, Rat.div_def]
    grind
  rw [e2]
  rw [e] at h
  have ci := hc i hi
  have ck := hc k hk
  generalize (sm (n + 1) fun a => A i a * cof n W a k) = s at *
  generalize det (n + 1) W = D at *
  by_cases z : i = k
  · subst z
    rw [dl_self] at *
    rw [Rat.div_def]
    grind
  · rw [dl_ne z] at *
    have : s = 0 := by grind
    rw [this]
    grind
theorem det_ne {n : Nat} {A : Mx} (h : rk n n A = n) : det n A ≠ 0 := fun z => by
  obtain ⟨B, hB, _⟩ := inv_of_rk h
  have := det_mul n A B
  rw [det_congr n hB, det_dl, z] at this
  grind
end LA
/-! The law's own minors. -/
namespace Mir
open PySem L2 ML LA
theorem lay_ints (l : List Int) : PyData.canLayAll0 (l.map PyData.int) = true ∧ PyData.depthAll (l.map PyData.int) ≤ 1 := by
  induction l with
  | nil => exact ⟨rfl, Nat.zero_le _⟩
  | cons x l ih => exact ⟨by simp [PyData.canLayAll0, PyData.canLay0, ih.1], by simp [PyData.depthAll, PyData.depth]; have := ih.2; omega⟩
theorem lay_zt (W : ZT) : PyData.canLayAll0 (W.map encZ) = true ∧ PyData.depthAll (W.map encZ) ≤ 2 := by
  induction W with
  | nil => exact ⟨rfl, Nat.zero_le _⟩
  | cons r W ih =>
    obtain ⟨a, b⟩ := lay_ints r
    refine ⟨by simp [PyData.canLayAll0, encZ, PyData.canLay0, a, ih.1], ?_⟩
    simp only [List.map_cons, PyData.depthAll, encZ, PyData.depth]
    have := ih.2
    omega
theorem zt_nil (W : ZT) : dEq false (.list (W.map encZ)) (.list []) = some (.bool W.isEmpty) := by
  have h : SeqAt.shaped (.list (W.map encZ)) = true := by
    obtain ⟨a, b⟩ := lay_zt W
    unfold SeqAt.shaped
    rw [Bool.and_eq_true]
    refine ⟨by simp [PyData.canLay0, a], decide_eq_true ?_⟩
    simp only [PyData.depth]
    omega
  unfold dEq
  rw [if_pos h, if_pos (by decide)]
  cases W <;> simp [PyData.eqv, PyData.eqvAll]
def cutR (r : List Int) (j : Nat) : List Int := r.take j ++ r.drop (j + 1)
theorem cutR_get {r : List Int} {j k : Nat} (hj : j < r.length) : (cutR r j).getD k 0 = r.getD (skip j k) 0 := by
  unfold cutR skip
  simp only [List.getD]
  by_cases h : k < j
  · rw [if_pos h, List.getElem?_append_left (by simp; omega), List.getElem?_take_of_lt h]
  · rw [if_neg h, List.getElem?_append_right (by simp; omega), List.getElem?_drop, List.length_take, Nat.min_eq_left (by omega)]
    congr 2
    omega
theorem cutR_len {r : List Int} {j n : Nat} (hr : r.length = n + 1) (hj : j < n + 1) : (cutR r j).length = n := by unfold cutR; simp; omega
theorem cutR_mem {r : List Int} {j : Nat} : ∀ x ∈ cutR r j, x ∈ r := fun x hx => by
  rcases List.mem_append.mp hx with h | h
  · exact List.mem_of_mem_take h
  · exact List.mem_of_mem_drop h
theorem cutL_enc {r : List Int} {s : Nat} (h : s < r.length) (h1 : r.length ≤ 100) : dAdd (.list (cutD (r.map PyData.int) none (some (s : Int)))) (.list (cutD (r.map PyData.int) (some ((s : Int) + 1)) none)) = some (encZ (cutR r s)) := by
  rw [cut_upto (by rw [List.length_map]; omega), show (s : Int) + 1 = ((s + 1 : Nat) : Int) by omega, cut_from (by rw [List.length_map]; omega), addL (by simp; omega), ← List.map_take, ← List.map_drop, ← List.map_append]
  rfl
theorem sg_int (g : Int) (s : Nat) (h : (g : Rat) = sg s) : g.natAbs = 1 := by
  unfold sg at h
  split at h
  · have : g = 1 := Rat.intCast_inj.mp (h.trans rfl)
    omega
  · have : g = -1 := Rat.intCast_inj.mp (h.trans rfl)
    omega
theorem minor_ok : ∀ (n fuel c : Nat) (W : ZT), n < fuel → n ≤ 7 → c ≤ 1000000 → W.length = n → (∀ r ∈ W, r.length = n ∧ ∀ x ∈ r, x.natAbs ≤ 2 ^ c) → ∃ d : Int, mir__law_minor fuel [encZT W] = .ok (.int d) none ∧ (d : Rat) = det n (matZ W) ∧ d.natAbs ≤ 2 ^ ((c + 3) * n)
  | 0, fuel + 1, c, W, _, _, _, hl, _ => by
    have : W = [] := List.eq_nil_of_length_eq_zero hl
    subst this
    refine ⟨1, ROk.eq ?_, rfl, by simp⟩
    refine ROk.mDef (env := [some _, none, none, none, none]) rfl rfl ?_
    unfold body__law_minor encZT
    walk_at "m"
    all_goals first | rfl | exact ⟨rfl, rfl⟩ | trace_state
  | n + 1, fuel + 1, c, W, hf, hn, hc, hl, hw => by
    obtain ⟨r0, rest, rfl⟩ : ∃ r0 rest, W = r0 :: rest := by
      cases W with
      | nil => simp at hl
      | cons a b => exact ⟨a, b, rfl⟩
    obtain ⟨l0, b0⟩ := hw r0 List.mem_cons_self
    have rl : rest.length = n := by simpa using hl
    have rw_ : ∀ r ∈ rest, r.length = n + 1 ∧ ∀ x ∈ r, x.natAbs ≤ 2 ^ c := fun r hr => hw r (List.mem_cons_of_mem _ hr)
    -- the minors
    have mi : ∀ s, s < n + 1 → ∃ d : Int, mir__law_minor fuel [encZT (rest.map fun r => cutR r s)] = .ok (.int d) none ∧ (d : Rat) = det n (fun i k => matZ (r0 :: rest) (i + 1) (skip s k)) ∧ d.natAbs ≤ 2 ^ ((c + 3) * n) := fun s hs => by
      obtain ⟨d, h1, h2, h3⟩ := minor_ok n fuel c (rest.map fun r => cutR r s) (by omega) (by omega) hc (by rw [List.length_map, rl]) fun r hr => by
        obtain ⟨q, hq, rfl⟩ := List.mem_map.mp hr
        obtain ⟨q1, q2⟩ := rw_ q hq
        exact ⟨cutR_len q1 hs, fun x hx => q2 x (cutR_mem x hx)⟩
      refine ⟨d, h1, h2.trans (det_congr n fun i hi k hk => ?_), h3⟩
      have e : row (rest.map fun r => cutR r s) i = cutR (rest.getD i []) s := by
        unfold row
        rw [getD_map (d := []) (by omega)]
      have hm := rw_ _ (show rest.getD i [] ∈ rest by simp [List.getD, show i < rest.length by omega])
      show ((((row (rest.map fun r => cutR r s) i).getD k 0 : Int)) : Rat) = (((row (r0 :: rest) (i + 1)).getD (skip s k) 0 : Int) : Rat)
      rw [e, cutR_get (by omega)]
      rfl
    have total : ∃ d : Int, (ROk (mir__law_minor (fuel + 1) [encZT (r0 :: rest)]) fun x o => x = .int d ∧ o = none) ∧ (d : Rat) = det (n + 1) (matZ (r0 :: rest)) ∧ d.natAbs ≤ 2 ^ ((c + 3) * (n + 1)) := by
      suffices h : ROk (mir__law_minor (fuel + 1) [encZT (r0 :: rest)]) fun x o => o = none ∧ ∃ d : Int, x = .int d ∧ (d : Rat) = det (n + 1) (matZ (r0 :: rest)) ∧ d.natAbs ≤ 2 ^ ((c + 3) * (n + 1)) by
        obtain ⟨x, o, h1, h2, d, rfl, h3, h4⟩ := h.ex
        exact ⟨d, ⟨_, _, h1, rfl, h2⟩, h3, h4⟩
      refine ROk.mDef (env := [some _, none, none, none, none]) rfl rfl ?_
      unfold body__law_minor encZT
      walk_at "m"
      refine ⟨_, zt_nil (r0 :: rest), ?_⟩
      walk_at "m"
      rw [List.length_map, hl]
      refine ⟨by omega, ?_⟩
      refine Fine.each_rng0 (fun s e => ∃ (f g : Int) (x : Option D), e = [some (.list ((r0 :: rest).map encZ)), some (.int f), some (.int g), x, none] ∧ (f : Rat) = sm s (fun j => sg j * matZ (r0 :: rest) 0 j * det n (fun i k => matZ (r0 :: rest) (i + 1) (skip j k))) ∧ (g : Rat) = sg s ∧ f.natAbs ≤ s * 2 ^ (c + (c + 3) * n)) (n + 1) ?_ ?_ _ ?_
      · rintro s e hs ⟨f, g, x, rfl, hf1, hg, hfb⟩
        obtain ⟨d, d1, d2, d3⟩ := mi s hs
        have g1 := sg_int g s hg
        have sl : s < r0.length := by omega
        have xb : (r0.getD s 0).natAbs ≤ 2 ^ c := b0 _ (getD_mem sl)
        have ng : ((0 - g : Int) : Rat) = sg (s + 1) := by rw [sg_succ, ← hg, Rat.intCast_sub]; grind
        have d0 : dIx (.list ((r0 :: rest).map encZ)) (.int 0) = some (encZ r0) := atI_of (xs := (r0 :: rest).map encZ) (i := 0) (by simp)
        walk_at "m"
        refine ⟨_, d0, ?_⟩
        walk_at "m"
        rw [ne_if]
        have eA : matZ (r0 :: rest) 0 s = ((r0.getD s 0 : Int) : Rat) := rfl
        refine ⟨fun hy => ?_, fun hy => ?_⟩
        · have gx : (g * r0.getD s 0).natAbs ≤ 2 ^ c := by rw [Int.natAbs_mul, g1, Nat.one_mul]; exact xb
          have cn : (c + 3) * n ≤ 1000003 * 6 := Nat.mul_le_mul (by omega) (by omega)
          walk_at "m"
          refine ⟨_, d0, ?_⟩
          walk_at "m"
          refine ⟨_, dMul_int (log_le (k := 0) (by omega) (by decide)) (log_le xb (by omega)), ?_⟩
          walk_at "m"
          refine Fine.comp_en rest encZ (fun r => encZ (cutR r s)) ?_ (by omega) ?_ ?_
          · walk_at "m"
            exact ⟨cut_tail, rfl⟩
          · intro r hr
            obtain ⟨q1, q2⟩ := rw_ r hr
            unfold encZ
            walk_at "m"
            refine ⟨_, cutL_enc (by omega) (by omega), ?_⟩
            exact ⟨rfl, rfl⟩
          walk_at "m"
          have ez : PyData.list (rest.map fun r => encZ (cutR r s)) = encZT (rest.map fun r => cutR r s) := by
            unfold encZT
            rw [List.map_map]
            rfl
          rw [ez]
          refine ROk.of_eq d1 ?_
          walk_at "m"
          refine ⟨_, dMul_int (log_le gx (by omega)) (log_le d3 (by omega)), ?_⟩
          walk_at "m"
          refine ⟨f + g * r0.getD s 0 * d, 0 - g, _, rfl, ?_, ng, ?_⟩
          · show _ = sm s _ + sg s * matZ (r0 :: rest) 0 s * _
            rw [← hf1, eA, ← hg, ← d2, Rat.intCast_add, Rat.intCast_mul, Rat.intCast_mul]
          · have h1 : (f + g * r0.getD s 0 * d).natAbs ≤ f.natAbs + (g * r0.getD s 0 * d).natAbs := Int.natAbs_add_le _ _
            have h2 : (g * r0.getD s 0 * d).natAbs ≤ 2 ^ (c + (c + 3) * n) := by rw [Int.natAbs_mul]; exact mul_le_pow gx d3
            rw [Nat.add_mul, Nat.one_mul]
            omega
        · have hy : r0.getD s 0 = 0 := Classical.byContradiction (of_decide_eq_false hy)
          walk_at "m"
          refine ⟨f, 0 - g, _, rfl, ?_, ng, ?_⟩
          · show (f : Rat) = sm s _ + sg s * matZ (r0 :: rest) 0 s * _
            rw [← hf1, eA, hy]
            grind
          · have : s * 2 ^ (c + (c + 3) * n) ≤ (s + 1) * 2 ^ (c + (c + 3) * n) := Nat.mul_le_mul_right _ (by omega)
            omega
      · rintro e ⟨f, g, x, rfl, hf1, hg, hfb⟩
        refine .inl ⟨rfl, ?_⟩
        walk_at "m"
        refine ⟨rfl, f, rfl, hf1, Nat.le_trans hfb ?_⟩
        have h8 : n + 1 ≤ 2 ^ 3 := by omega
        have := Nat.mul_le_mul_right (2 ^ (c + (c + 3) * n)) h8
        rw [← Nat.pow_add] at this
        refine Nat.le_trans this (Nat.pow_le_pow_right (by decide) ?_)
        rw [Nat.mul_add]
        omega
      · exact ⟨0, 1, none, rfl, rfl, rfl, by simp⟩
    obtain ⟨d, h1, h2, h3⟩ := total
    exact ⟨d, ROk.eq h1, h2, h3⟩
end Mir
/-! The law's own inverse. -/
namespace Mir
open PySem L2 ML LA
def cutL {α : Type} (l : List α) (j : Nat) : List α := l.take j ++ l.drop (j + 1)
theorem cutL_get {α : Type} {l : List α} {j k : Nat} {d : α} (hj : j < l.length) : (cutL l j).getD k d = l.getD (skip j k) d := by
  unfold cutL skip
  simp only [List.getD]
  by_cases h : k < j
  · rw [if_pos h, List.getElem?_append_left (by simp; omega), List.getElem?_take_of_lt h]
  · rw [if_neg h, List.getElem?_append_right (by simp; omega), List.getElem?_drop, List.length_take, Nat.min_eq_left (by omega)]
    congr 2
    omega
theorem cutL_len {α : Type} {l : List α} {j n : Nat} (hl : l.length = n + 1) (hj : j < n + 1) : (cutL l j).length = n := by unfold cutL; simp; omega
theorem cutL_mem {α : Type} {l : List α} {j : Nat} : ∀ x ∈ cutL l j, x ∈ l := fun x hx => by
  rcases List.mem_append.mp hx with h | h
  · exact List.mem_of_mem_take h
  · exact List.mem_of_mem_drop h
theorem cutW_enc {W : ZT} {s : Nat} (h : s < W.length) (h1 : W.length ≤ 100) : dAdd (.list (cutD (W.map encZ) none (some (s : Int)))) (.list (cutD (W.map encZ) (some ((s : Int) + 1)) none)) = some (.list ((cutL W s).map encZ)) := by
  rw [cut_upto (by rw [List.length_map]; omega), show (s : Int) + 1 = ((s + 1 : Nat) : Int) by omega, cut_from (by rw [List.length_map]; omega), addL (by simp; omega), ← List.map_take, ← List.map_drop, ← List.map_append]
  rfl
theorem sg_par (a t : Nat) (x : Int) (q : Rat) (h : (x : Rat) = q) : (((if ((a : Int) + (t : Int)) % 2 = 0 then x else 0 - x : Int)) : Rat) = sg (a + t) * q := by
  unfold sg
  by_cases c : (a + t) % 2 = 0
  · rw [if_pos c, if_pos (by omega), h]; grind
  · rw [if_neg c, if_neg (by omega), Rat.intCast_sub, h]
    show ((0 : Int) : Rat) - q = _
    have : ((0 : Int) : Rat) = 0 := rfl
    rw [this]
    grind
theorem undone_eq {n b : Nat} {g g' : List (List Rat)} (h : Grid (n + 1) (n + 1) b g) (hn : n + 1 ≤ 5) (hb : b ≤ 216) (hr : rk (n + 1) (n + 1) (mat g) = n + 1) {c' : Nat} (h' : Grid (n + 1) (n + 1) c' g') (hI : Inv (n + 1) (mat g) (mat g')) : mir__law_undone [encTab g] = .ok (encTab g') none := by
  have gl := h.tall
  have bb : b * (n + 1 + 1) ≤ 216 * 6 := Nat.mul_le_mul hb (by omega)
  have bb2 : b * (n + 1) ≤ 216 * 5 := Nat.mul_le_mul hb (by omega)
  let W : ZT := g.map whl
  have st := sta_start h.wide h.qb
  have Wl : W.length = n + 1 := by rw [← gl]; exact st.tall
  have Ww : ∀ r ∈ W, r.length = n + 1 ∧ ∀ x ∈ r, x.natAbs ≤ 2 ^ 1300 := fun r hr => by
    obtain ⟨i, hi, rfl⟩ := List.getElem_of_mem hr
    have e : W[i] = row W i := by unfold row; simp [List.getD, hi]
    rw [e]
    refine ⟨st.wide i (by omega), fun x hx => ?_⟩
    have := st.bits i (by omega) x hx
    have h2 : (2 : Nat) ^ ((b * (n + 1 + 1) + 1) * 2 ^ ([] : List Nat).length) ≤ 2 ^ 1300 := Nat.pow_le_pow_right (by decide) (by simp; omega)
    omega
  have WA : ∀ i, i < n + 1 → ∀ j, j < n + 1 → matZ W i j = mat g i j * ((cmn (g.getD i []) : Nat) : Rat) := fun i hi j _ => ent_whl (by omega) j
  obtain ⟨DW, D1, D2, D3⟩ := minor_ok (n + 1) 8 1300 W (by omega) (by omega) (by omega) Wl Ww
  have rW : rk (n + 1) (n + 1) (matZ W) = n + 1 := by
    have := st.re.rk
    rw [gl] at this
    rw [← this]
    exact hr
  have dW := det_ne rW
  have D0 : DW ≠ 0 := fun z => dW (by rw [← D2, z]; rfl)
  have c1 : ∀ p : Nat × Nat, ∃ d : Int, p.1 < n + 1 → p.2 < n + 1 → mir__law_minor 8 [encZT ((cutL W p.2).map fun r => cutR r p.1)] = .ok (.int d) none ∧ (d : Rat) = det n (fun i l => matZ W (skip p.2 i) (skip p.1 l)) ∧ d.natAbs ≤ 2 ^ ((1300 + 3) * n) := fun ⟨a, t⟩ => by
    by_cases ha : a < n + 1
    · by_cases ht : t < n + 1
      · obtain ⟨d, d1, d2, d3⟩ := minor_ok n 8 1300 ((cutL W t).map fun r => cutR r a) (by omega) (by omega) (by omega) (by rw [List.length_map, cutL_len Wl ht]) fun r hr => by
          obtain ⟨q, hq, rfl⟩ := List.mem_map.mp hr
          obtain ⟨q1, q2⟩ := Ww q (cutL_mem q hq)
          exact ⟨cutR_len q1 ha, fun x hx => q2 x (cutR_mem x hx)⟩
        refine ⟨d, fun _ _ => ⟨d1, d2.trans (det_congr n fun i hi k hk => ?_), d3⟩⟩
        have e : row ((cutL W t).map fun r => cutR r a) i = cutR (row W (skip t i)) a := by
          unfold row
          rw [getD_map (d := []) (by rw [cutL_len Wl ht]; exact hi), cutL_get (by omega)]
        have hm := st.wide (skip t i) (by rw [gl]; exact skip_lt hi)
        show (((row ((cutL W t).map fun r => cutR r a) i).getD k 0 : Int) : Rat) = (((row W (skip t i)).getD (skip a k) 0 : Int) : Rat)
        rw [e, cutR_get (by rw [hm]; exact ha)]
      · exact ⟨0, fun _ z => absurd z ht⟩
    · exact ⟨0, fun z _ => absurd z ha⟩
  obtain ⟨dd, hdd⟩ := Classical.axiomOfChoice c1
  let y : Nat → Nat → Int := fun a t => dd (a, t) * (cmn (g.getD t []) : Int)
  let x : Nat → Nat → Int := fun a t => if ((a : Int) + (t : Int)) % 2 = 0 then y a t else 0 - y a t
  let U : List (List Rat) := (List.range (n + 1)).map fun a => (List.range (n + 1)).map fun t => Rat.divInt (x a t) DW
  have Ul : U.length = n + 1 := by simp [U]
  have Um : ∀ a, a < n + 1 → ∀ t, t < n + 1 → mat U a t = Rat.divInt (x a t) DW := fun a ha t ht => by
    unfold mat
    simp [U, List.getD, ha, ht]
  have Uw : ∀ r ∈ U, r.length = n + 1 := fun r hr => by
    obtain ⟨a, _, rfl⟩ := List.mem_map.mp hr
    simp
  have cb : ∀ t, t < n + 1 → cmn (g.getD t []) ≤ 2 ^ 1080 := fun t ht => by
    obtain ⟨r1, r2⟩ := h.row ht
    exact Nat.le_trans (Nat.le_trans (cmn_le _ 1 0 (h.qb _ r2) (by simp)) (Nat.pow_le_pow_right (by decide) (by rw [r1, Nat.zero_add]; exact Nat.le_refl _))) (Nat.pow_le_pow_right (by decide) bb2)
  have eU : U = g' := by
    have e : Eqm (n + 1) (n + 1) (mul (n + 1) (mat g) (mat U)) dl := by
      refine (Eqm.mul Eqm.refl fun a ha t ht => ?_).trans (cof_inv (c := fun t => ((cmn (g.getD t []) : Nat) : Rat)) (fun i _ => nat_ne (cmn_pos _)) WA dW)
      obtain ⟨_, d2, _⟩ := hdd (a, t) ha ht
      rw [Um a ha t ht, Rat.divInt_eq_div, D2]
      have hy : ((y a t : Int) : Rat) = det n (fun i l => matZ W (skip t i) (skip a l)) * ((cmn (g.getD t []) : Nat) : Rat) := by
        show ((dd (a, t) * (cmn (g.getD t []) : Int) : Int) : Rat) = _
        rw [Rat.intCast_mul, d2]
        rfl
      show ((x a t : Int) : Rat) / _ = _
      rw [show ((x a t : Int) : Rat) = _ from sg_par a t (y a t) _ hy]
      unfold cof
      rw [Rat.mul_assoc]
    have e2 := hI.uniq e
    have l' := h'.tall
    refine List.ext_getElem (by omega) fun i a b => ?_
    have e1 : U[i] = U.getD i [] := by simp [List.getD, a]
    have e3 : g'[i] = g'.getD i [] := by simp [List.getD, b]
    rw [e1, e3]
    refine row_ext (n := n + 1) (Uw _ (getD_memR a)) (h'.row (by omega)).1 fun j hj => (e2 i (by omega) j hj).symm
  rw [← eU]
  refine ROk.eq ?_
  unfold mir__law_undone
  refine ROk.mDef (env := [some _, none, none, none, none, none, none, none, none]) rfl rfl ?_
  unfold body__law_undone
  walk_at "m"
  refine ROk.of_eq (wholes_eq (n := n + 1) (seq_tab g) (fun r hr => ⟨Nat.le_of_eq (h.wide r hr), h.qb r hr⟩) (by omega) (by omega) (by omega)) ?_
  walk_at "m"
  refine ROk.of_eq D1 ?_
  walk_at "m"
  rw [List.length_map, gl]
  refine ⟨by omega, ?_⟩
  refine Fine.each_rng0 (fun a e => ∃ (x4 x5 x6 x7 x8 : Option D), e = [some (encTab g), some (encZT W), some (.list ((U.take a).map encRow)), some (.int DW), x4, x5, x6, x7, x8]) (n + 1) ?_ ?_ _ ?_
  · rintro a e ha ⟨x4, x5, x6, x7, x8, rfl⟩
    walk_at "m"
    rw [List.length_map, gl]
    refine ⟨by omega, ?_⟩
    refine Fine.each_rng0 (fun t e => ∃ (x6 x7 x8 : Option D), e = [some (encTab g), some (encZT W), some (.list ((U.take a).map encRow)), some (.int DW), some (.int (a : Int)), some (.list (((List.range t).map fun t => Rat.divInt (x a t) DW).map encQ)), x6, x7, x8]) (n + 1) ?_ ?_ _ ?_
    · rintro t e ht ⟨x6, x7, x8, rfl⟩
      obtain ⟨d1, d2, d3⟩ := hdd (a, t) ha ht
      have tW : t < W.length := by omega
      unfold encZT
      walk_at "m"
      have ctl : (cutL W t).length = n := cutL_len Wl ht
      refine Fine.comp_en (cutL W t) encZ (fun r => encZ (cutR r a)) ?_ (by omega) ?_ ?_
      · walk_at "m"
        refine ⟨_, cutW_enc (by omega) (by omega), ?_⟩
        walk_at "m"
        rfl
      · intro r hr
        have := (Ww r (cutL_mem r hr)).1
        unfold encZ
        walk_at "m"
        refine ⟨_, cutL_enc (by omega) (by omega), ?_⟩
        exact ⟨rfl, rfl⟩
      walk_at "m"
      have ez : PyData.list ((cutL W t).map fun r => encZ (cutR r a)) = encZT ((cutL W t).map fun r => cutR r a) := by
        unfold encZT
        rw [List.map_map]
        rfl
      rw [ez]
      refine ROk.of_eq d1 ?_
      walk_at "m"
      obtain ⟨r1, r2⟩ := h.row ht
      refine ROk.of_eq (common_eq (n := n + 1) (h.qb _ r2) (by omega) (by omega)) ?_
      walk_at "m"
      refine ⟨_, dMul_int (log_le d3 (by omega)) (log_le (cb t ht) (by omega)), ?_⟩
      walk_at "m"
      rw [show ((a : Int) + (t : Int)).fmod 2 = ((a : Int) + (t : Int)) % 2 from Int.fmod_eq_emod_of_nonneg _ (by decide), eq_if]
      have nx : ((List.range t).map fun t => Rat.divInt (x a t) DW).map encQ ++ [encQ (Rat.divInt (x a t) DW)] = ((List.range (t + 1)).map fun t => Rat.divInt (x a t) DW).map encQ := by
        rw [List.range_succ, List.map_append, List.map_append]
        rfl
      refine ⟨fun hc => ?_, fun hc => ?_⟩
      · have ex : x a t = y a t := if_pos (of_decide_eq_true hc)
        rw [ex] at nx
        walk_at "m"
        refine ROk.of_eq (lean_eq D0) ?_
        walk_at "m"
        refine ⟨decide_eq_true (by simp; omega), ?_⟩
        rw [nx]
        exact ⟨_, _, _, rfl⟩
      · have ex : x a t = 0 - y a t := if_neg (of_decide_eq_false hc)
        rw [ex] at nx
        walk_at "m"
        refine ROk.of_eq (lean_eq D0) ?_
        walk_at "m"
        refine ⟨decide_eq_true (by simp; omega), ?_⟩
        rw [nx]
        exact ⟨_, _, _, rfl⟩
    · rintro e ⟨x6, x7, x8, rfl⟩
      refine .inl ⟨rfl, ?_⟩
      walk_at "m"
      refine ⟨decide_eq_true (by simp; omega), ?_⟩
      have nx : (U.take a).map encRow ++ [PyData.tuple (((List.range (n + 1)).map fun t => Rat.divInt (x a t) DW).map encQ)] = (U.take (a + 1)).map encRow := by
        have ua : U[a]? = some ((List.range (n + 1)).map fun t => Rat.divInt (x a t) DW) := by simp [U, ha]
        rw [List.take_succ, ua, List.map_append]
        rfl
      rw [nx]
      exact ⟨_, _, _, _, _, rfl⟩
    · exact ⟨_, _, _, rfl⟩
  · rintro e ⟨x4, x5, x6, x7, x8, rfl⟩
    refine .inl ⟨rfl, ?_⟩
    walk_at "m"
    rw [List.take_of_length_le (by omega)]
    exact ⟨rfl, rfl⟩
  · exact ⟨_, _, _, _, _, rfl⟩
end Mir
/-! Ranks of blocks; parts of a table and of its inverse. -/
namespace LA
/-- places and the others -/
structure Two (n a a' : Nat) (I I' : Nat → Nat) : Prop where
  sum : a + a' = n
  lt : ∀ i, i < a → I i < n
  lt' : ∀ i, i < a' → I' i < n
  cov : ∀ x, x < n → (∃ i, i < a ∧ I i = x) ∨ ∃ i, i < a' ∧ I' i = x
  ne : ∀ i, i < a → ∀ j, j < a' → I i ≠ I' j
  inj : ∀ i, i < a → ∀ j, j < a → I i = I j → i = j
  inj' : ∀ i, i < a' → ∀ j, j < a' → I' i = I' j → i = j
theorem Two.swap {n a a' : Nat} {I I' : Nat → Nat} (h : Two n a a' I I') : Two n a' a I' I where
  sum := by have := h.sum; omega
  lt := h.lt'
  lt' := h.lt
  cov := fun x hx => (h.cov x hx).symm
  ne := fun i hi j hj => (h.ne j hj i hi).symm
  inj := h.inj'
  inj' := h.inj
def two (a : Nat) (I I' : Nat → Nat) : Nat → Nat := fun i => if i < a then I i else I' (i - a)
theorem Two.map {n a a' : Nat} {I I' : Nat → Nat} (h : Two n a a' I I') : (∀ i, i < n → two a I I' i < n) ∧ ∀ i, i < n → ∃ k, k < n ∧ two a I I' k = i := by
  have s := h.sum
  constructor
  · intro i hi
    unfold two
    split
    · exact h.lt i (by assumption)
    · exact h.lt' _ (by omega)
  · intro x hx
    rcases h.cov x hx with ⟨i, hi, e⟩ | ⟨i, hi, e⟩
    · exact ⟨i, by omega, by unfold two; rw [if_pos hi, e]⟩
    · exact ⟨a + i, by omega, by unfold two; rw [if_neg (by omega), show a + i - a = i by omega, e]⟩
theorem dl_inj {a : Nat} {I : Nat → Nat} (h : ∀ i, i < a → ∀ j, j < a → I i = I j → i = j) {i j : Nat} (hi : i < a) (hj : j < a) : dl (I i) (I j) = dl i j := by
  unfold dl
  by_cases c : i = j
  · rw [if_pos c, c, if_pos rfl]
  · rw [if_neg c, if_neg fun e => c (h i hi j hj e)]
end LA
/-! Lots beside, all lots, nullities kept. -/
namespace Mir
open PySem L2 ML LA
def bes (n : Nat) (L : List Nat) : List Nat := (List.range n).filter fun x => decide (x ∉ L)
theorem asc_eq : ∀ {l m : List Nat}, l.Pairwise (· < ·) → m.Pairwise (· < ·) → (∀ x, x ∈ l ↔ x ∈ m) → l = m
  | [], [], _, _, _ => rfl
  | [], y :: m, _, _, h => absurd ((h y).mpr List.mem_cons_self) (by simp)
  | x :: l, [], _, _, h => absurd ((h x).mp List.mem_cons_self) (by simp)
  | x :: l, y :: m, hl, hm, h => by
    obtain ⟨l1, l2⟩ := List.pairwise_cons.mp hl
    obtain ⟨m1, m2⟩ := List.pairwise_cons.mp hm
    have e : x = y := by
      have a1 := (h x).mp List.mem_cons_self
      have a2 := (h y).mpr List.mem_cons_self
      rcases List.mem_cons.mp a1 with c | c
      · exact c
      · rcases List.mem_cons.mp a2 with d | d
        · exact d.symm
        · have := m1 x c
          have := l1 y d
          omega
    subst e
    rw [asc_eq l2 m2 fun z => ⟨fun hz => ?_, fun hz => ?_⟩]
    · rcases List.mem_cons.mp ((h z).mp (List.mem_cons_of_mem _ hz)) with c | c
      · have := l1 z hz; omega
      · exact c
    · rcases List.mem_cons.mp ((h z).mpr (List.mem_cons_of_mem _ hz)) with c | c
      · have := m1 z hz; omega
      · exact c
theorem filter_len {α : Type} (p : α → Bool) : ∀ l : List α, (l.filter p).length + (l.filter fun x => !p x).length = l.length
  | [] => rfl
  | x :: l => by
    have := filter_len p l
    by_cases h : p x = true
    · simp [List.filter_cons, h]; omega
    · simp [List.filter_cons, h]; omega
theorem bes_lot {n : Nat} {L : List Nat} : Lot n (bes n L) := ⟨fun i hi => List.mem_range.mp (List.mem_filter.mp hi).1, List.pairwise_lt_range.filter _⟩
theorem bes_len {n : Nat} {L : List Nat} (h : Lot n L) : L.length + (bes n L).length = n := by
  have e : L = (List.range n).filter fun x => decide (x ∈ L) := asc_eq h.2 (List.pairwise_lt_range.filter _) fun x => by
    rw [List.mem_filter, List.mem_range, decide_eq_true_eq]
    exact ⟨fun hx => ⟨h.1 x hx, hx⟩, fun hx => hx.2⟩
  have f := filter_len (fun x => decide (x ∈ L)) (List.range n)
  rw [← e, List.length_range] at f
  have e2 : bes n L = (List.range n).filter fun x => !decide (x ∈ L) := by
    unfold bes
    congr 1
    funext x
    simp
  rw [e2]
  exact f
theorem lot_two {n : Nat} {L : List Nat} (h : Lot n L) : Two n L.length (bes n L).length (fun i => L.getD i 0) (fun i => (bes n L).getD i 0) where
  sum := bes_len h
  lt := fun i hi => h.1 _ (getD_mem hi)
  lt' := fun i hi => bes_lot.1 _ (getD_mem hi)
  cov := fun x hx => by
    have at_ : ∀ {l : List Nat}, x ∈ l → ∃ i, i < l.length ∧ l.getD i 0 = x := fun hm => by
      obtain ⟨i, hi, e⟩ := List.getElem_of_mem hm
      exact ⟨i, hi, by simp [List.getD, hi, e]⟩
    by_cases c : x ∈ L
    · exact .inl (at_ c)
    · exact .inr (at_ (List.mem_filter.mpr ⟨List.mem_range.mpr hx, decide_eq_true c⟩))
  ne := fun i hi j hj e => by
    have h1 : L.getD i 0 ∈ L := getD_mem hi
    have h2 : (bes n L).getD j 0 ∈ bes n L := getD_mem hj
    have h3 := of_decide_eq_true (List.mem_filter.mp h2).2
    rw [← e] at h3
    exact h3 h1
  inj := fun i hi j hj e => by
    rcases Nat.lt_trichotomy i j with c | c | c
    · have := pw_get h.2 c hj; omega
    · exact c
    · have := pw_get h.2 c hi; omega
  inj' := fun i hi j hj e => by
    rcases Nat.lt_trichotomy i j with c | c | c
    · have := pw_get bes_lot.2 c hj; omega
    · exact c
    · have := pw_get bes_lot.2 c hi; omega
theorem dNin_ns {x : Nat} {l : List Nat} : dIn true (.int (x : Int)) (.tuple (l.map enI)) = some (.bool (decide (x ∉ l))) := by
  show (if flatD (.int (x : Int)) = true then (if (l.map enI).all flatD = true then some (PyData.bool (if true = true then !inD (.int (x : Int)) (l.map enI) else inD (.int (x : Int)) (l.map enI))) else none) else none) = _
  have e1 : (l.map enI).all flatD = true := by
    rw [List.all_map]
    exact List.all_eq_true.mpr fun _ _ => rfl
  have e2 : inD (.int (x : Int)) (l.map enI) = decide (x ∈ l) := by
    unfold inD
    rw [List.any_map]
    by_cases c : x ∈ l
    · rw [decide_eq_true c]
      exact List.any_eq_true.mpr ⟨x, c, by simp [PyData.eqv]⟩
    · rw [decide_eq_false c]
      refine List.any_eq_false.mpr fun y hy z => c ?_
      have : (y : Int) = (x : Int) := by simpa [PyData.eqv] using z
      have : y = x := by omega
      rw [← this]; exact hy
  rw [if_pos (show flatD (PyData.int (x : Int)) = true from rfl), if_pos e1, if_pos rfl, e2]
  simp
theorem lbeside_eq {n : Nat} {L : List Nat} (hn : n ≤ 100) : mir__law_beside [encNs L, .int (n : Int)] = .ok (encNs (bes n L)) none := by
  refine ROk.eq ?_
  unfold mir__law_beside
  refine ROk.mDef (env := [some _, some _, none]) rfl rfl ?_
  unfold body__law_beside encNs
  walk_at "m"
  refine Fine.comp_enF (List.range n) enI (fun x => decide (x ∉ L)) enI ?_ (by rw [List.length_range]; omega) ?_ ?_
  · refine Fine.range1N ?_
    walk_at "m"
    exact ⟨by omega, rfl, rfl⟩
  · intro i hi
    walk_at "m"
    refine ⟨_, dNin_ns, ?_⟩
    walk_at "m"
    refine ⟨fun _ => ?_, fun _ => rfl⟩
    walk_at "m"
    rfl
  · walk_at "m"
    exact ⟨rfl, rfl⟩
theorem lots_ok {n : Nat} (hn : n ≤ 5) : ROk (mir__law_lots [.int (n : Int)]) fun d o => o = none ∧ ∃ Ls : List (List Nat), d = .list (Ls.map encNs) ∧ (∀ L ∈ Ls, Lot n L) ∧ Ls.length ≤ 1000 := by
  unfold mir__law_lots
  refine ROk.mDef (env := [some _, none, none, none]) rfl rfl ?_
  unfold body__law_lots
  walk_at "m"
  refine ⟨by omega, ?_⟩
  refine Fine.each_rng0 (fun s e => ∃ (Ls : List (List Nat)) (x2 x3 : Option D), e = [some (.int (n : Int)), some (.list (Ls.map encNs)), x2, x3] ∧ (∀ L ∈ Ls, Lot s L) ∧ Ls.length = 2 ^ s) n ?_ ?_ _ ?_
  · rintro s e hs ⟨Ls, x2, x3, rfl, hL, hl⟩
    have p5 : 2 ^ s ≤ 2 ^ 5 := Nat.pow_le_pow_right (by decide) (by omega)
    walk_at "m"
    refine Fine.comp_en Ls encNs (fun L => encNs (L ++ [s])) ?_ (by omega) ?_ ?_
    · walk_at "m"
      rfl
    · intro L hm
      have := lot_len (hL L hm)
      unfold encNs
      walk_at "m"
      refine ⟨?_, rfl⟩
      rw [List.map_append]
      rfl
    walk_at "m"
    have e1 : Ls.map encNs ++ Ls.map (fun L => encNs (L ++ [s])) = (Ls ++ Ls.map fun L => L ++ [s]).map encNs := by
      rw [List.map_append, List.map_map]
      rfl
    rw [e1]
    refine ⟨_, _, _, rfl, fun L hm => ?_, ?_⟩
    · rcases List.mem_append.mp hm with hm | hm
      · have := hL L hm
        exact ⟨fun i hi => Nat.lt_succ_of_lt (this.1 i hi), this.2⟩
      · obtain ⟨K, hK, rfl⟩ := List.mem_map.mp hm
        have := hL K hK
        refine ⟨fun i hi => ?_, ?_⟩
        · rcases List.mem_append.mp hi with hi | hi
          · exact Nat.lt_succ_of_lt (this.1 i hi)
          · rw [List.mem_singleton.mp hi]; exact Nat.lt_succ_self s
        · refine List.pairwise_append.mpr ⟨this.2, List.pairwise_singleton _ _, fun a ha b hb => ?_⟩
          rw [List.mem_singleton.mp hb]
          exact this.1 a ha
    · rw [List.length_append, List.length_map, hl, Nat.pow_succ]; omega
  · rintro e ⟨Ls, x2, x3, rfl, hL, hl⟩
    refine .inl ⟨rfl, ?_⟩
    have p5 : 2 ^ n ≤ 2 ^ 5 := Nat.pow_le_pow_right (by decide) hn
    walk_at "m"
    exact ⟨rfl, Ls, rfl, hL, by omega⟩
  · exact ⟨[[]], none, none, rfl, (fun L hm => by rw [List.mem_singleton.mp hm]; exact ⟨(fun i hi => by cases hi), List.Pairwise.nil⟩), rfl⟩
end Mir
/-! law_k05's mirror says True. -/
namespace Mir
open PySem L2 ML LA
theorem Fine.ow {e : ME} {Q : Fl → ME → Prop} {i : Nat} {f : M Fl} (h : Fine (f (e.set i none)) fun fl e1 => fl = .nx ∧ ∃ ds, e1[i]? = some (some (.list ds)) ∧ Q .nx e1) : Fine (mOw i f e) Q := by
  obtain ⟨fl, e1, h1, rfl, ds, h2, q⟩ := h.ex
  refine ⟨.nx, e1, ?_, q⟩
  unfold mOw
  rw [h1]
  show (if (slotL e1 i).isSome = true then Res.ok Fl.nx e1 else .bad) = _
  rw [slotL_of h2]
  rfl
def lawBodyG (lo hi : Int) (mr mw : List D → Rs) : M Fl :=
  (mRet (mCa dAll (mCons (mComp [1] (mRange1 (mCons (mCa (gI2 iMax) (mCons (ret (.int lo)) (mCons (mCa (gI2 iMin) (mCons (mCa gLen (mCons (mVar 0) (ret []))) (mCons (ret (.int hi)) (ret [])))) (ret [])))) (ret []))) (setS 1) mYes (mCallT mr (mCall mw (mCons (mVar 0) (mCons (mVar 1) (ret [])))))) (ret []))))
theorem law_genG {mr mw : List D → Rs} {c lo hi : Int} (l0 : 0 ≤ lo) (l3 : lo ≤ 3) (h0 : 0 ≤ hi) (h3 : hi ≤ 3) (hw : mw = mDef 2 5 false true (wellBody c)) (hc0 : 0 ≤ c) (hc1 : c < 2 ^ 31) (hr : ∀ w, WellOk 0 w → ROk (mr [.list w]) fun d _ => d = .bool true) (ns : List Int) : ROk (mDef 1 2 false false (lawBodyG lo hi mr mw) [.list (ns.map PyData.int)]) fun d _ => d = .bool true := by
  refine ROk.mDef (env := [some _, none]) rfl rfl ?_
  unfold lawBodyG
  walk_at "s"
  walk_at "s"
  have hlen : ∃ k : Nat, iMax lo (iMin ((ns.map PyData.int).length : Int) hi) = (k : Int) ∧ k ≤ 3 := by
    rw [List.length_map]
    have : ∃ z : Int, iMax lo (iMin (ns.length : Int) hi) = z ∧ 0 ≤ z ∧ z ≤ 3 := by
      refine ⟨_, rfl, ?_⟩
      unfold iMax iMin
      split <;> split <;> omega
    obtain ⟨z, e, z0, z3⟩ := this
    exact ⟨z.toNat, by omega, by omega⟩
  obtain ⟨k, hk, hk3⟩ := hlen
  refine Fine.cons (Fine.comp_en (List.range k) enI (fun _ => PyData.bool true) ?_ (by simp; omega) ?_ ?_)
  · walk_at "r"
    rw [hk]
    exact ⟨k, rfl, by omega, rngD_map k, rfl⟩
  · intro i hi
    have hi := List.mem_range.mp hi
    walk_at "r"
    subst hw
    refine (well_gen hc0 hc1 (turn := i) (by omega)).imp ?_
    rintro _ _ ⟨w, rfl, hw⟩
    walk_at "r"
    refine (hr w hw).imp ?_
    rintro _ _ rfl
    exact ⟨rfl, rfl⟩
  · walk_at "r"
    refine ⟨_, dAll_map (fun _ => true) (List.range k), ?_⟩
    show PyData.bool _ = _
    simp
end Mir
/-! Minors of the inverse: Jacobi's complementary minors. -/
namespace LA
theorem det_lo : ∀ (k a : Nat) {N X : Mx}, (∀ i, i < a → ∀ j, j < a → N i j = X i j) → (∀ i, i < a → ∀ j, j < k → N i (a + j) = 0) → (∀ i, i < k → ∀ j, j < k → N (a + i) (a + j) = dl i j) → det (a + k) N = det a X
  | 0, a, N, X, h, _, _ => det_congr a h
  | k + 1, a, N, X, h, h0, h1 => by
    have ih := det_lo k a (N := N) (X := X) h (fun i hi j hj => h0 i hi j (by omega)) fun i hi j hj => h1 i (by omega) j (by omega)
    have e : det (a + k + 1) (tr N) = tr N (a + k) (a + k) * det (a + k) (tr N) := det_last (a + k) (tr N) fun j hj => by
      show N j (a + k) = 0
      by_cases c : j < a
      · exact h0 j c k (by omega)
      · rw [show j = a + (j - a) by omega, h1 (j - a) (by omega) k (by omega), dl_ne (by omega)]
    rw [show a + (k + 1) = a + k + 1 by omega, ← det_tr (a + k + 1), e, det_tr, ih]
    show N (a + k) (a + k) * _ = _
    rw [h1 k (by omega) k (by omega), dl_self]
    grind
theorem det_hi : ∀ (b k : Nat) {N Y : Mx}, (∀ i, i < b → ∀ j, j < b → N i j = dl i j) → (∀ i, i < k → ∀ j, j < b → N (b + i) j = 0) → (∀ i, i < k → ∀ j, j < k → N (b + i) (b + j) = Y i j) → det (b + k) N = det k Y
  | 0, k, N, Y, _, _, h => by
    rw [Nat.zero_add]
    refine det_congr k fun i hi j hj => ?_
    have := h i hi j hj
    rw [Nat.zero_add, Nat.zero_add] at this
    exact this
  | b + 1, k, N, Y, h1, h0, h => by
    have ih := det_hi b k (N := fun i j => N (i + 1) (j + 1)) (Y := Y) (fun i hi j hj => by
      rw [h1 (i + 1) (by omega) (j + 1) (by omega)]
      unfold dl
      simp only [Nat.add_right_cancel_iff]) (fun i hi j hj => by
      show N (b + i + 1) (j + 1) = 0
      rw [show b + i + 1 = b + 1 + i by omega]
      exact h0 i hi (j + 1) (by omega)) fun i hi j hj => by
      show N (b + i + 1) (b + j + 1) = _
      rw [show b + i + 1 = b + 1 + i by omega, show b + j + 1 = b + 1 + j by omega]
      exact h i hi j hj
    rw [show b + 1 + k = b + k + 1 by omega, ← det_tr (b + k + 1)]
    have e : det (b + k + 1) (tr N) = sm (b + k + 1) fun j => sg j * tr N 0 j * det (b + k) (fun i l => tr N (i + 1) (skip j l)) := rfl
    rw [e, sm_one (k := 0) (by omega) fun i hi ne => ?_]
    · have e2 : det (b + k) (fun i l => tr N (i + 1) (skip 0 l)) = det (b + k) (tr fun i j => N (i + 1) (j + 1)) := det_congr _ fun i hi l hl => by
        show N (skip 0 l) (i + 1) = N (l + 1) (i + 1)
        unfold skip
        rw [if_neg (by omega)]
      rw [e2, det_tr, ih]
      show sg 0 * N 0 0 * _ = _
      rw [h1 0 (by omega) 0 (by omega), dl_self, sg_zero]
      grind
    · have z : tr N 0 i = 0 := by
        show N i 0 = 0
        by_cases c : i < b + 1
        · rw [h1 i c 0 (by omega), dl_ne ne]
        · rw [show i = b + 1 + (i - (b + 1)) by omega]
          exact h0 (i - (b + 1)) (by omega) 0 (by omega)
      rw [z]
      grind
theorem perm_mul {n : Nat} {f : Nat → Nat} (hf : ∀ i, i < n → f i < n) (G : Mx) : Eqm n n (mul n (fun i t => dl (f i) t) G) fun i j => G (f i) j := fun i hi j _ => sm_dl_l (f := fun t => G t j) (hf i hi)
/-- a part of the inverse, by the part of the other places -/
theorem jacobi0 {n a a' : Nat} {A B : Mx} {I I' J J' : Nat → Nat} (inv : Inv n A B) (hI : Two n a a' I I') (hJ : Two n a a' J J') (sq : det n (fun i t => dl (two a I I' i) t) * det n (fun i t => dl (two a I I' i) t) = 1) :
    det a' (fun i j => B (J' i) (I' j)) = det n (fun i t => dl (two a J J' i) t) * (det n B * (det n (fun i t => dl (two a I I' i) t) * det a (fun i j => A (I i) (J j)))) := by
  have sI := hI.sum
  let G : Mx := fun i j => if j < a then A i (J j) else dl i (I' (j - a))
  obtain ⟨m1, _⟩ := hI.map
  obtain ⟨m2, _⟩ := hJ.map
  have g1 : det n (fun i t => dl (two a I I' i) t) * det n G = det a (fun i j => A (I i) (J j)) := by
    rw [← det_mul, det_congr n (perm_mul m1 G), ← sI]
    refine det_lo a' a (fun i hi j hj => ?_) (fun i hi j hj => ?_) fun i hi j hj => ?_
    · show (if j < a then A (if i < a then I i else _) (J j) else _) = _
      rw [if_pos hj, if_pos hi]
    · show (if a + j < a then _ else dl (if i < a then I i else _) (I' (a + j - a))) = _
      rw [if_neg (by omega), if_pos hi, show a + j - a = j by omega, dl_ne (hI.ne i hi j hj)]
    · show (if a + j < a then _ else dl (if a + i < a then _ else I' (a + i - a)) (I' (a + j - a))) = _
      rw [if_neg (by omega), if_neg (by omega), show a + j - a = j by omega, show a + i - a = i by omega, dl_inj hI.inj' hi hj]
  let H : Mx := fun i j => if j < a then dl i (J j) else B i (I' (j - a))
  have eH : Eqm n n (mul n B G) H := fun i hi j hj => by
    show sm n _ = (if j < a then dl i (J j) else B i (I' (j - a)))
    by_cases c : j < a
    · rw [if_pos c, ← inv.2 i hi (J j) (hJ.lt j c)]
      refine sm_congr fun t ht => ?_
      show B i t * (if j < a then A t (J j) else _) = _
      rw [if_pos c]
    · rw [if_neg c]
      have : sm n (fun t => B i t * G t j) = sm n fun t => B i t * dl t (I' (j - a)) := sm_congr fun t ht => by
        show B i t * (if j < a then A t (J j) else _) = _
        rw [if_neg c]
      rw [this]
      exact sm_dl_r (f := fun t => B i t) (hI.lt' _ (by omega))
  have g2 : det n B * det n G = det n H := by rw [← det_mul, det_congr n eH]
  have g3 : det n (fun i t => dl (two a J J' i) t) * det n H = det a' (fun i j => B (J' i) (I' j)) := by
    rw [← det_mul, det_congr n (perm_mul m2 H), ← sI]
    refine det_hi a a' (fun i hi j hj => ?_) (fun i hi j hj => ?_) fun i hi j hj => ?_
    · show (if j < a then dl (if i < a then J i else _) (J j) else _) = _
      rw [if_pos hj, if_pos hi, dl_inj hJ.inj hi hj]
    · show (if j < a then dl (if a + i < a then _ else J' (a + i - a)) (J j) else _) = _
      rw [if_pos hj, if_neg (by omega), show a + i - a = i by omega, dl_ne (hJ.ne j hj i hi).symm]
    · show (if a + j < a then _ else B (if a + i < a then _ else J' (a + i - a)) (I' (a + j - a))) = _
      rw [if_neg (by omega), if_neg (by omega), show a + j - a = j by omega, show a + i - a = i by omega]
  rw [← g3, ← g2, ← g1]
  grind
def tri : Nat → Nat
  | 0 => 0
  | a + 1 => tri a + a
theorem getD_l {x y : List Nat} {i : Nat} (h : i < x.length) : (x ++ y).getD i 0 = x.getD i 0 := by
  rw [List.getD_eq_getElem?_getD, List.getElem?_append_left h, ← List.getD_eq_getElem?_getD]
theorem getD_r {x y : List Nat} {i : Nat} (h : x.length ≤ i) : (x ++ y).getD i 0 = y.getD (i - x.length) 0 := by
  rw [List.getD_eq_getElem?_getD, List.getElem?_append_right h, ← List.getD_eq_getElem?_getD]
theorem filt_len (p : Nat → Bool) : ∀ l : List Nat, (l.filter p).length + (l.filter fun x => !p x).length = l.length
  | [] => rfl
  | x :: l => by
    have := filt_len p l
    cases h : p x <;> simp [h] <;> omega
/-- the sign of a lot and of the places beside -/
theorem det_two_lots (m : Nat → Bool) : ∀ n, det n (fun i t => dl (((List.range n).filter m ++ (List.range n).filter fun x => !m x).getD i 0) t) = sg (((List.range n).filter m).sum + tri ((List.range n).filter m).length)
  | 0 => rfl
  | n + 1 => by
    have ih := det_two_lots m n
    have fl := filt_len m (List.range n)
    rw [List.length_range] at fl
    rw [List.range_succ, List.filter_append, List.filter_append]
    generalize (List.range n).filter m = X at ih fl ⊢
    generalize ((List.range n).filter fun x => !m x) = Y at ih fl ⊢
    cases h : m n with
    | false =>
      have e1 : [n].filter m = [] := by simp [h]
      have e2 : ([n].filter fun x => !m x) = [n] := by simp [h]
      rw [e1, e2, List.append_nil]
      have gl : (X ++ (Y ++ [n])).getD n 0 = n := by
        rw [getD_r (by omega), getD_r (by omega), show n - X.length - Y.length = 0 by omega]
        rfl
      rw [det_last n _ fun j hj => by rw [gl, dl_ne (by omega)], gl, dl_self]
      have ec : det n (fun i t => dl ((X ++ (Y ++ [n])).getD i 0) t) = det n (fun i t => dl ((X ++ Y).getD i 0) t) := det_congr n fun i hi t _ => by
        rw [← List.append_assoc, getD_l (by rw [List.length_append]; omega)]
      rw [ec, ih]
      grind
    | true =>
      have e1 : [n].filter m = [n] := by simp [h]
      have e2 : ([n].filter fun x => !m x) = [] := by simp [h]
      rw [e1, e2, List.append_nil]
      have gl : (X ++ [n] ++ Y).getD X.length 0 = n := by
        rw [List.append_assoc, getD_r (Nat.le_refl _), Nat.sub_self]
        rfl
      rw [det_row n _ (k := X.length) (by omega), sm_one (k := n) (by omega) fun i hi ne => by rw [gl, dl_ne (fun e => ne e.symm)]; grind]
      rw [gl, dl_self]
      have ec : det n (fun i l => dl ((X ++ [n] ++ Y).getD (skip X.length i) 0) (skip n l)) = det n (fun i t => dl ((X ++ Y).getD i 0) t) := det_congr n fun i hi l hl => by
        have s1 : skip n l = l := by unfold skip; rw [if_pos hl]
        have s2 : (X ++ [n] ++ Y).getD (skip X.length i) 0 = (X ++ Y).getD i 0 := by
          unfold skip
          by_cases c : i < X.length
          · rw [if_pos c, List.append_assoc, getD_l c, getD_l c]
          · rw [if_neg c, List.append_assoc, getD_r (by omega), getD_r (by rw [List.length_singleton]; omega), getD_r (by omega), List.length_singleton, show i + 1 - X.length - 1 = i - X.length by omega]
        rw [s1, s2]
      rw [ec, ih, List.sum_append, List.length_append, List.length_singleton]
      show sg (n + X.length) * 1 * sg (X.sum + tri X.length) = sg (X.sum + [n].sum + (tri X.length + X.length))
      have : [n].sum = n := by simp
      rw [this, sg_add, sg_add, sg_add, sg_add, sg_add]
      grind
end LA
/-! Drawn carriers. -/
namespace Mir
open PySem L2 ML LA
/-- places with sizes up to M, from `here` to `to` -/
def ChainM (M to : Nat) : Nat → List Stop → Prop
  | here, [] => here = to
  | here, p :: c => here ≤ M ∧ ∃ there, there ≤ M ∧ StopOk here there p ∧ ChainM M to there c
theorem ChainM.to {M to : Nat} (hM : M ≤ 5) : ∀ {here : Nat} {c : List Stop}, ChainM M to here c → ChainTo to here c
  | _, [], h => h
  | _, _ :: _, ⟨h5, there, t5, hp, h⟩ => ⟨by omega, there, by omega, hp, h.to hM⟩
abbrev eN (i : Nat) : D := .int (i : Int)
def prs : List Nat → List (Nat × Nat)
  | x :: y :: l => (x, y) :: prs (y :: l)
  | _ => []
def lastN : Nat → List Nat → Nat
  | x, [] => x
  | _, y :: l => lastN y l
end Mir
/-! Drawn carriers: wide ones, least ones. -/
namespace Mir
open PySem L2 ML LA
/-- neighbours differ by at most 1 -/
def Near1 : List Nat → Prop
  | x :: y :: l => y ≤ x + 1 ∧ x ≤ y + 1 ∧ Near1 (y :: l)
  | _ => True
end Mir
/-! Drawn carriers: padded ones, some. -/
namespace Mir
open PySem L2 ML LA
theorem ChainM.mono {M M' to : Nat} (h : M ≤ M') : ∀ {here : Nat} {c : List Stop}, ChainM M to here c → ChainM M' to here c
  | _, [], x => x
  | _, _ :: _, ⟨h5, there, t5, hp, x⟩ => ⟨by omega, there, by omega, hp, x.mono h⟩
end Mir
/-! A drawn carrier, how many places, the law's own carried table. -/
namespace Mir
open PySem L2 ML LA
end Mir
/-! The law's own table of what a carrier carries. -/
namespace Mir
open PySem L2 ML LA
def goQ (g : List (List Rat)) (v : List Rat) : List Rat := g.map fun r => qdot r v
def ledQ (c : List Stop) (j k : Nat) : List Rat := ((c.take k).drop (j + 1)).foldl (fun v p => goQ p.on v) ((c.getD j ⟨[], [], []⟩).inn)
/-- what is known of a chain's places -/
theorem ChainOk.at : ∀ {c : List Stop} {here : Nat} (k : Nat), ChainOk here c → k < c.length → ∃ h t, h ≤ 5 ∧ t ≤ 5 ∧ StopOk h t (c.getD k ⟨[], [], []⟩) ∧ (k + 1 < c.length → (c.getD (k + 1) ⟨[], [], []⟩).out.length = t) ∧ (k = 0 → h = here)
  | p :: c, here, 0, ⟨h5, there, t5, hp, hc⟩, _ => ⟨here, there, h5, t5, hp, (fun h => by
      cases c with
      | nil => simp at h
      | cons q c => exact hc.2.choose_spec.2.1.out), fun _ => rfl⟩
  | p :: c, here, k + 1, ⟨h5, there, t5, hp, hc⟩, hk => by
    obtain ⟨h, t, a1, a2, a3, a4, _⟩ := ChainOk.at k hc (by simpa using hk)
    exact ⟨h, t, a1, a2, a3, (fun h' => a4 (by simpa using h')), fun z => by omega⟩
def rowB (c : List Stop) (k : Nat) : List Rat := ((List.range k).map fun j => qdot (c.getD k ⟨[], [], []⟩).out (ledQ c j k)) ++ List.replicate (c.length - k) 0
def belowQ (c : List Stop) : List (List Rat) := (List.range c.length).map (rowB c)
end Mir
/-! law_k17's mirror says True. -/
namespace Mir
open PySem L2 ML LA
end Mir
/-! Lines back through a carrier. -/
namespace Mir
open PySem L2 ML LA
def backQ (r : List Rat) (on : List (List Rat)) (w : Nat) : List Rat := (flipT on w).map fun c => qdot r c
end Mir
/-! The going table. -/
namespace Mir
open PySem L2 ML LA
abbrev stp (c : List Stop) (k : Nat) : Stop := c.getD k ⟨[], [], []⟩
def lineQ (c : List Stop) (at' k : Nat) : List Rat := (List.range' at' (k - at')).reverse.foldl (fun l h => backQ l (stp c h).on (stp c h).out.length) (stp c k).out
def Bs : Nat → Nat
  | 0 => 21
  | n + 1 => (2 * Bs n + 1) * 5 + 1
end Mir
/-! Coming and going. -/
namespace Mir
open PySem L2 ML LA
end Mir
/-! Coming; both. -/
namespace Mir
open PySem L2 ML LA
def sideQ (c : List Stop) (k : Nat) : List (List Rat) := (List.range k).map fun j => ledQ c j k
end Mir
/-! law_k18's mirror says True. -/
namespace Mir
open PySem L2 ML LA
end Mir
/-! A product's rank is as great as can be just if both are. -/
namespace LA
theorem Ge.left {m s : Nat} {A : Mx} (h : Ge m s s A) : ∃ L, Eqm s s (mul m L A) dl := by
  obtain ⟨U, V, g⟩ := h
  have i := inv_comm (n := s) (A := mul m U A) (B := V) (by rw [mul_assoc]; exact g)
  exact ⟨mul s V U, by rw [mul_assoc]; exact i⟩
theorem Ge.right {s n : Nat} {B : Mx} (h : Ge s n s B) : ∃ R, Eqm s s (mul n B R) dl := by
  obtain ⟨U, V, g⟩ := h
  have i := inv_comm (n := s) (A := U) (B := mul n B V) g
  exact ⟨mul s V U, by rw [← mul_assoc]; exact i⟩
end LA
/-! Low ranks and sizes. -/
namespace Mir
open PySem L2 ML LA
def lowQ (g : List (List Rat)) (k : Nat) : List (List Rat) := (g.drop k).map fun r => r.take k
noncomputable def lowsQ (c : List Stop) : List Nat := (List.range' 1 (c.length - 1)).map fun k => rk (c.length - k) k (mat (lowQ (belowQ c) k))
def spansQ (c : List Stop) : List Nat := (List.range' 1 (c.length - 1)).map fun k => (stp c k).out.length
theorem eqv_ns : ∀ (a b : List Nat), PyData.eqvAll (a.map enI) (b.map enI) = decide (a = b)
  | [], [] => rfl
  | [], y :: b => by simp [PyData.eqvAll]
  | x :: a, [] => by simp [PyData.eqvAll]
  | x :: a, y :: b => by
    have := eqv_ns a b
    simp only [List.map_cons, PyData.eqvAll, this]
    by_cases h : x = y
    · subst h
      simp [PyData.eqv]
    · have : (PyData.int (x : Int)).eqv (.int (y : Int)) = false := by simp [PyData.eqv]; omega
      rw [this]
      simp [h]
theorem dEq_ns {a b : List Nat} (ha : a.length ≤ 1000) (hb : b.length ≤ 1000) : dEq false (encNs a) (encNs b) = some (.bool (decide (a = b))) := by
  unfold dEq
  rw [if_pos (pl_shaped (pl_ns ha) (by decide)), if_pos (pl_shaped (pl_ns hb) (by decide)), if_neg Bool.false_ne_true]
  have : (encNs a).eqv (encNs b) = PyData.eqvAll (a.map enI) (b.map enI) := by unfold encNs; simp [PyData.eqv]
  rw [this, eqv_ns]
end Mir
/-! The program's determinant and the law's. -/
namespace LA
def pr : Nat → (Nat → Rat) → Rat
  | 0, _ => 1
  | n + 1, c => c 0 * pr n fun i => c (i + 1)
theorem det_scale : ∀ (n : Nat) {A W : Mx} {c : Nat → Rat}, (∀ i, i < n → ∀ j, j < n → W i j = A i j * c i) → det n W = pr n c * det n A
  | 0, _, _, _, _ => by show (1 : Rat) = 1 * 1; grind
  | n + 1, A, W, c, h => by
    show sm (n + 1) _ = c 0 * pr n (fun i => c (i + 1)) * sm (n + 1) _
    rw [← sm_mul]
    refine sm_congr fun j hj => ?_
    rw [det_scale n (A := fun i k => A (i + 1) (skip j k)) (c := fun i => c (i + 1)) fun i hi k hk => h (i + 1) (by omega) _ (skip_lt hk), h 0 (by omega) j hj]
    grind
theorem pr_fold {α : Type} (f : α → Nat) (d : α) : ∀ (l : List α) (s : Nat), ((l.foldl (fun s r => s * f r) s : Nat) : Rat) = (s : Rat) * pr l.length fun i => ((f (l.getD i d) : Nat) : Rat)
  | [], s => by show (s : Rat) = s * 1; grind
  | x :: l, s => by
    have := pr_fold f d l (s * f x)
    rw [List.foldl_cons, this, Rat.natCast_mul]
    show _ = (s : Rat) * (((f x : Nat) : Rat) * pr l.length _)
    rw [← Rat.mul_assoc]
    rfl
theorem det_zero {n : Nat} {A : Mx} (h : rk n n A < n) : det n A = 0 := by
  cases n with
  | zero => exact absurd h (by omega)
  | succ n =>
    refine Decidable.byContradiction fun z => ?_
    have e := cof_inv (n := n) (A := A) (W := A) (c := fun _ => 1) (fun _ _ => by decide) (fun i _ j _ => by grind) z
    have := (Inv.of e).rk
    omega
end LA
namespace Mir
open PySem L2 ML LA
theorem nat_ne0 {n : Nat} (h : 0 < n) : ((n : Nat) : Rat) ≠ 0 := fun e => by
  have : (n : Rat) = ((0 : Nat) : Rat) := e
  have := Rat.natCast_inj.mp this
  omega
theorem det_eq {n b : Nat} {g : List (List Rat)} (h : Grid n n b g) (n0 : 0 < n) (n5 : n ≤ 5) (hb : b ≤ 80000) : mir_determinant [encTab g] = .ok (encQ (det n (mat g))) none := by
  have gl := h.tall
  obtain ⟨h1, h2⟩ := bnds (.inr ⟨hb, n5, n5⟩) (Nat.le_trans n5 (by decide)) (Nat.le_trans n5 (by decide))
  refine ROk.eq ?_
  unfold mir_determinant
  refine ROk.mDef (env := [some _, none, none, none, none, none]) rfl rfl ?_
  unfold body_determinant
  walk_at "m"
  refine ROk.of_eq (checkSq h n0 (by omega)) ?_
  walk_at "m"
  refine ROk.of_eq (whole_eq (seq_tab g) (fun r hr => ⟨Nat.le_of_eq (h.wide r hr), h.qb r hr⟩) (by omega) (by omega) h1) ?_
  walk_at "m"
  rw [List.length_map, gl]
  refine (swept_rows h.wide h.qb (Nat.le_refl n) (by omega) (by omega) (by rw [gl]; exact Nat.lt_of_le_of_lt (Nat.mul_le_mul_right _ (by omega)) (Nat.lt_of_lt_of_le h2 (by decide)))).imp ?_
  rintro _ _ ⟨rfl, W, V, p, lead, rfl, st⟩
  walk_at "m"
  rw [List.length_map, List.length_map, gl]
  have rk1 := st.rank
  rw [gl] at rk1
  have ple : p.length ≤ n := by rw [rk1]; exact (rk_ok n n _).le_rows
  refine ⟨fun z => ?_, fun z => ?_⟩
  · have z : (p.length : Int) < (n : Int) := of_decide_eq_true z
    rw [det_zero (A := mat g) (n := n) (by omega)]
    walk_at "m"
    exact ⟨rfl, rfl⟩
  · have z : ¬ (p.length : Int) < (n : Int) := of_decide_eq_false z
    have pn : p.length = n := by omega
    have pid := asc_id st.inc pn fun j hj => by
      obtain ⟨i, hi, e⟩ := List.getElem_of_mem hj
      have := st.ps i hi
      rw [List.getD_eq_getElem?_getD, List.getElem?_eq_getElem hi] at this
      rw [← e]
      exact this
    have ld : det n (matZ V) = (lead : Rat) := by
      have := st.st.ld
      rw [pn] at this
      rw [← this]
      exact det_congr n fun a ha c hc => by rw [pid c hc]
    have dt := st.dt
    rw [gl] at dt
    have sc : det n (matZ (g.map whq)) = ((scl g : Nat) : Rat) * det n (mat g) := by
      rw [det_scale n (A := mat g) (c := fun i => ((lcd (g.getD i []) : Nat) : Rat)) fun i hi j _ => ent_whq (by omega) j]
      have := pr_fold lcd ([] : List Rat) g 1
      rw [gl] at this
      have e1 : ((1 : Nat) : Rat) = 1 := rfl
      rw [e1] at this
      unfold scl
      rw [this]
      grind
    have s0 : scl g ≠ 0 := by have := scl_pos g; omega
    walk_at "m"
    refine ROk.of_eq (fraction_eq (by omega)) ⟨?_, rfl⟩
    refine congrArg encQ ?_
    rw [Rat.divInt_eq_div, ← ld, dt, sc]
    have s1 := nat_ne0 (scl_pos g)
    show ((scl g : Nat) : Rat) * _ / ((scl g : Nat) : Rat) = _
    grind
theorem ldet_eq {n b : Nat} {g : List (List Rat)} (h : Grid n n b g) (n5 : n ≤ 5) (hb : b ≤ 216) : mir__law_det [encTab g] = .ok (encQ (det n (mat g))) none := by
  have gl := h.tall
  have bb : b * (n + 1) ≤ 216 * 6 := Nat.mul_le_mul hb (by omega)
  have bb2 : b * n ≤ 216 * 5 := Nat.mul_le_mul hb n5
  let W : ZT := g.map whl
  have st := sta_start h.wide h.qb
  have Wl : W.length = n := by rw [← gl]; exact st.tall
  have Ww : ∀ r ∈ W, r.length = n ∧ ∀ x ∈ r, x.natAbs ≤ 2 ^ 1300 := fun r hr => by
    obtain ⟨i, hi, rfl⟩ := List.getElem_of_mem hr
    have e : W[i] = row W i := by unfold row; simp [List.getD, hi]
    rw [e]
    refine ⟨st.wide i (by omega), fun x hx => ?_⟩
    have := st.bits i (by omega) x hx
    have h2 : (2 : Nat) ^ ((b * (n + 1) + 1) * 2 ^ ([] : List Nat).length) ≤ 2 ^ 1300 := Nat.pow_le_pow_right (by decide) (by simp; omega)
    omega
  obtain ⟨DW, D1, D2, D3⟩ := minor_ok n 8 1300 W (by omega) (by omega) (by decide) Wl Ww
  have cb : ∀ r ∈ g, cmn r ≤ 2 ^ 1080 := fun r hr => Nat.le_trans (Nat.le_trans (cmn_le _ 1 0 (h.qb _ hr) (by simp)) (Nat.pow_le_pow_right (by decide) (by rw [h.wide r hr, Nat.zero_add]; exact Nat.le_refl _))) (Nat.pow_le_pow_right (by decide) bb2)
  refine ROk.eq ?_
  unfold mir__law_det
  refine ROk.mDef (env := [some _, none, none]) rfl rfl ?_
  unfold body__law_det
  walk_at "m"
  refine Fine.each_map encRow (fun rem e => ∃ (done : List (List Rat)) (x2 : Option D), e = [some (encTab g), some (.int ((done.foldl (fun s r => s * cmn r) 1 : Nat) : Int)), x2] ∧ done ++ rem = g ∧ done.foldl (fun s r => s * cmn r) 1 ≤ 2 ^ (1080 * done.length)) ?_ ?_ g ?_
  · rintro r rem e ⟨done, x2, rfl, hd, hs⟩
    have hr : r ∈ g := by rw [← hd]; simp
    have hl : done.length < n := by have := congrArg List.length hd; simp at this; omega
    walk_at "m"
    refine ROk.of_eq (common_eq (h.qb r hr) (Nat.le_of_eq (h.wide r hr)) (by omega)) ?_
    have s2 : done.foldl (fun s r => s * cmn r) 1 ≤ 2 ^ 5400 := Nat.le_trans hs (Nat.pow_le_pow_right (by decide) (by omega))
    refine ⟨_, dMul_int (log_le (k := 5400) s2 (by decide)) (log_le (k := 1080) (cb r hr) (by decide)), ?_⟩
    walk_at "m"
    refine ⟨done ++ [r], some (encRow r), ?_, by simp [hd], ?_⟩
    · rw [List.foldl_append]
      rfl
    · rw [List.foldl_append, List.length_append, List.length_singleton, Nat.mul_add, Nat.pow_add]
      exact Nat.mul_le_mul hs (cb r hr)
  · rintro e ⟨done, x2, rfl, hd, hs⟩
    rw [List.append_nil] at hd
    subst hd
    refine .inl ⟨rfl, ?_⟩
    walk_at "m"
    refine ROk.of_eq (wholes_eq (seq_tab done) (fun r hr => ⟨Nat.le_of_eq (h.wide r hr), h.qb r hr⟩) (by omega) (by omega) (by omega)) ?_
    walk_at "m"
    refine ROk.of_eq D1 ?_
    walk_at "m"
    have fp : ∀ (l : List (List Rat)) (s : Nat), 0 < s → 0 < l.foldl (fun s r => s * cmn r) s := fun l => by
      induction l with
      | nil => exact fun s h => h
      | cons r l ih => exact fun s h => ih _ (Nat.mul_pos h (cmn_pos r))
    have f0 := fp done 1 (by decide)
    refine ROk.of_eq (lean_eq (by omega)) ⟨?_, rfl⟩
    refine congrArg encQ ?_
    have sc : det n (matZ W) = ((done.foldl (fun s r => s * cmn r) 1 : Nat) : Rat) * det n (mat done) := by
      rw [det_scale n (A := mat done) (c := fun i => ((cmn (done.getD i []) : Nat) : Rat)) fun i hi j _ => ent_whl (by omega) j]
      have := pr_fold cmn ([] : List Rat) done 1
      rw [gl] at this
      have e1 : ((1 : Nat) : Rat) = 1 := rfl
      rw [e1] at this
      rw [this]
      grind
    rw [Rat.divInt_eq_div, D2, sc]
    have s1 := nat_ne0 f0
    show ((done.foldl (fun s r => s * cmn r) 1 : Nat) : Rat) * _ / ((done.foldl (fun s r => s * cmn r) 1 : Nat) : Rat) = _
    grind
  · exact ⟨[], none, rfl, rfl, by decide⟩
end Mir
/-! A drawn lot of so many; what is due. -/
namespace Mir
open PySem L2 ML LA
theorem lotof_ok {N n few : Nat} {w : List D} (h : WellOk N w) (hn : n ≤ 5) (hf : few ≤ n) (hN : N < 2 ^ 58) : ROk (mir__law_lot_of [.list w, .int (n : Int), .int (few : Int)]) fun d o => ∃ (L : List Nat) (w' : List D), d = encNs L ∧ Lot n L ∧ L.length = few ∧ o = some (.list w') ∧ WellOk (N + 5) w' := by
  unfold mir__law_lot_of
  refine ROk.mDef (env := [some _, some _, some _, none, none]) rfl rfl ?_
  unfold body__law_lot_of
  walk_at "m"
  refine ⟨by omega, by show 3 < 5; decide, rfl, ?_⟩
  have e0 : PyData.list (rngD 0 n) = .list ((List.range n).map enI) := by rw [rngD_map]
  rw [e0]
  walk_at "m"
  refine ⟨n - few, congrArg (fun x => [PyData.int x]) (by omega), by omega, ?_⟩
  refine Fine.each_rng0 (fun s e => ∃ (w' : List D) (L : List Nat) (x : Option D), e = [some (.list w'), some (.int (n : Int)), some (.int (few : Int)), some (.list (L.map enI)), x] ∧ Lot n L ∧ L.length + s = n ∧ WellOk (N + s) w') (n - few) ?_ ?_ _ ?_
  · rintro s e hs ⟨w', L, x, rfl, hL, hl, hw⟩
    walk_at "m"
    refine Fine.popAt rfl ?_
    walk_at "m"
    rw [List.length_map]
    refine (draw_ok hw (by omega) (by omega) (by omega)).imp ?_
    rintro _ _ ⟨k, w1, rfl, k0, k1, rfl, h1⟩
    obtain ⟨j, rfl⟩ : ∃ j : Nat, k = (j : Int) := ⟨k.toNat, by omega⟩
    have hj : j < L.length := by omega
    walk_at "m"
    refine ⟨by omega, by rw [List.length_map]; exact hj, ?_⟩
    have e1 : (L.map enI).eraseIdx j = (L.eraseIdx j).map enI := by
      rw [List.eraseIdx_eq_take_drop_succ, List.eraseIdx_eq_take_drop_succ, List.map_append, List.map_take, List.map_drop]
    rw [e1]
    walk_at "m"
    refine ⟨w1, L.eraseIdx j, _, rfl, ⟨fun i hi => hL.1 i (List.mem_of_mem_eraseIdx hi), hL.2.sublist (List.eraseIdx_sublist ..)⟩, ?_, h1⟩
    rw [List.length_eraseIdx, if_pos hj]
    omega
  · rintro e ⟨w', L, x, rfl, hL, hl, hw⟩
    refine .inl ⟨rfl, ?_⟩
    walk_at "m"
    exact ⟨L, w', rfl, hL, by omega, rfl, hw.mono (by omega)⟩
  · exact ⟨w, List.range n, none, rfl, ⟨fun i hi => List.mem_range.mp hi, List.pairwise_lt_range⟩, by rw [List.length_range]; omega, h⟩
theorem sum_ns (L : List Nat) : dSum [encNs L] = some (.int (L.sum : Int)) := by
  have h : ∀ l : List Nat, intsD (l.map enI) = some (l.map fun i : Nat => (i : Int)) := fun l => by
    induction l with
    | nil => rfl
    | cons x l ih =>
      show (intsD (l.map enI)).map ((x : Int) :: ·) = _
      rw [ih]
      rfl
  have s : ∀ l : List Nat, (l.map fun i : Nat => (i : Int)).sum = (l.sum : Int) := fun l => by
    induction l with
    | nil => rfl
    | cons x l ih => rw [List.map_cons, List.sum_cons, List.sum_cons, ih]; omega
  show ((intsD (L.map enI)).map fun (is : List Int) => PyData.int is.sum) = _
  rw [h]
  show some (PyData.int _) = _
  rw [s]
theorem encQ_neg (q : Rat) : PyData.tuple [.int (0 - q.num), .int (q.den : Int)] = encQ (-q) := by
  unfold encQ
  rw [Int.zero_sub]
  rfl
theorem quo_rat (p w : Rat) : Rat.divInt (p.num * (w.den : Int)) ((p.den : Int) * w.num) = p / w := by
  rw [Rat.divInt_eq_div]
  rw [Rat.intCast_mul, Rat.intCast_mul]
  have hp : p = (p.num : Rat) / ((p.den : Int) : Rat) := by rw [← Rat.divInt_eq_div]; exact (Rat.num_divInt_den p).symm
  have hw : w = (w.num : Rat) / ((w.den : Int) : Rat) := by rw [← Rat.divInt_eq_div]; exact (Rat.num_divInt_den w).symm
  have h1 : ((p.den : Int) : Rat) ≠ 0 := fun e => p.den_nz (by have := Rat.intCast_inj.mp (show ((p.den : Int) : Rat) = ((0 : Int) : Rat) from e); omega)
  have h2 : ((w.den : Int) : Rat) ≠ 0 := fun e => w.den_nz (by have := Rat.intCast_inj.mp (show ((w.den : Int) : Rat) = ((0 : Int) : Rat) from e); omega)
  generalize (p.num : Rat) = a at hp
  generalize (w.num : Rat) = b at hw
  generalize ((p.den : Int) : Rat) = c at hp h1
  generalize ((w.den : Int) : Rat) = d at hw h2
  rw [hp, hw]
  by_cases z : b = 0
  · rw [z]; grind
  · grind
/-- what is due for a part -/
theorem ldue_eq {n b : Nat} {g : List (List Rat)} {I J : List Nat} {wh : Rat} (h : Grid n n b g) (n5 : n ≤ 5) (hb : b ≤ 216) (hI : Lot n I) (hJ : Lot n J) (hl : J.length = I.length) (w0 : wh ≠ 0) (wq : Qb 100000 wh) (dq : Qb 100000 (det I.length (mat (subT g I J)))) : mir__law_due [encTab g, encQ wh, encNs I, encNs J] = .ok (encQ (sg (I.sum + J.sum) * (det I.length (mat (subT g I J)) / wh))) none := by
  have il := lot_len hI
  have jl := lot_len hJ
  have gs : Grid I.length I.length b (subT g I J) := by
    have := h.sub (I := I) (J := J) hI.1 hJ.1
    rw [hl] at this
    exact this
  have wn : wh.num ≠ 0 := fun e => w0 (Rat.num_eq_zero.mp e)
  have dd := (det I.length (mat (subT g I J))).den_nz
  refine ROk.eq ?_
  unfold mir__law_due
  refine ROk.mDef (env := [some _, some _, some _, some _, none]) rfl rfl ?_
  unfold body__law_due
  walk_at "m"
  generalize hq : det I.length (mat (subT g I J)) = q at dq dd
  have qn : q.num.natAbs ≤ 2 ^ 100000 := Nat.le_of_lt dq.num
  have qd : ((q.den : Int)).natAbs ≤ 2 ^ 100000 := by have := dq.den; omega
  have wd : ((wh.den : Int)).natAbs ≤ 2 ^ 100000 := by have := wq.den; omega
  have wn2 : wh.num.natAbs ≤ 2 ^ 100000 := Nat.le_of_lt wq.num
  have nz : (q.den : Int) * wh.num ≠ 0 := Int.mul_ne_zero (by omega) wn
  have eqd : Rat.divInt (q.num * (wh.den : Int)) ((q.den : Int) * wh.num) = q / wh := quo_rat q wh
  refine ⟨_, dEq_ns (a := I) (b := []) (by omega) (by decide), _, rfl, fun z => ?_, fun z => ?_⟩
  · have z : I = [] := of_decide_eq_true z
    walk_at "m"
    refine ROk.of_eq (lean_eq (by decide)) ?_
    have e1 : Rat.divInt 1 1 = q := by
      rw [← hq, z]
      rfl
    rw [e1]
    walk_at "m"
    refine ⟨_, dMul_int (log_le (k := 100000) qn (by decide)) (log_le (k := 100000) wd (by decide)), ?_⟩
    walk_at "m"
    refine ⟨_, dMul_int (log_le (k := 100000) qd (by decide)) (log_le (k := 100000) wn2 (by decide)), ?_⟩
    walk_at "m"
    refine ROk.of_eq (lean_eq nz) ?_
    rw [eqd]
    walk_at "m"
    refine ⟨_, sum_ns I, ?_⟩
    walk_at "m"
    refine ⟨_, sum_ns J, ?_⟩
    walk_at "m"
    refine ⟨fun z => ?_, fun z => ?_⟩
    · have z : (((I.sum : Nat) : Int) + ((J.sum : Nat) : Int)).fmod 2 = 0 := eq_of_beq z
      rw [Int.fmod_eq_emod_of_nonneg _ (by decide)] at z
      have s1 : sg (I.sum + J.sum) = 1 := by unfold sg; rw [if_pos (by omega)]
      walk_at "m"
      rw [s1, Rat.one_mul]
      exact ⟨rfl, rfl⟩
    · have z : (((I.sum : Nat) : Int) + ((J.sum : Nat) : Int)).fmod 2 ≠ 0 := fun e => by
        have : ((((I.sum : Nat) : Int) + ((J.sum : Nat) : Int)).fmod 2 == 0) = false := z
        rw [e] at this
        cases this
      rw [Int.fmod_eq_emod_of_nonneg _ (by decide)] at z
      have s1 : sg (I.sum + J.sum) = -1 := by unfold sg; rw [if_neg (by omega)]
      walk_at "m"
      rw [s1, encQ_neg]
      refine ⟨congrArg encQ ?_, rfl⟩
      grind
  · walk_at "m"
    refine ROk.of_eq (lpiece_eq h rfl rfl hI.1 hJ.1 (by omega) (by omega)) ?_
    walk_at "m"
    refine ROk.of_eq (ldet_eq gs (by omega) hb) ?_
    rw [hq]
    walk_at "m"
    refine ⟨_, dMul_int (log_le (k := 100000) qn (by decide)) (log_le (k := 100000) wd (by decide)), ?_⟩
    walk_at "m"
    refine ⟨_, dMul_int (log_le (k := 100000) qd (by decide)) (log_le (k := 100000) wn2 (by decide)), ?_⟩
    walk_at "m"
    refine ROk.of_eq (lean_eq nz) ?_
    rw [eqd]
    walk_at "m"
    refine ⟨_, sum_ns I, ?_⟩
    walk_at "m"
    refine ⟨_, sum_ns J, ?_⟩
    walk_at "m"
    refine ⟨fun z => ?_, fun z => ?_⟩
    · have z : (((I.sum : Nat) : Int) + ((J.sum : Nat) : Int)).fmod 2 = 0 := eq_of_beq z
      rw [Int.fmod_eq_emod_of_nonneg _ (by decide)] at z
      have s1 : sg (I.sum + J.sum) = 1 := by unfold sg; rw [if_pos (by omega)]
      walk_at "m"
      rw [s1, Rat.one_mul]
      exact ⟨rfl, rfl⟩
    · have z : (((I.sum : Nat) : Int) + ((J.sum : Nat) : Int)).fmod 2 ≠ 0 := fun e => by
        have : ((((I.sum : Nat) : Int) + ((J.sum : Nat) : Int)).fmod 2 == 0) = false := z
        rw [e] at this
        cases this
      rw [Int.fmod_eq_emod_of_nonneg _ (by decide)] at z
      have s1 : sg (I.sum + J.sum) = -1 := by unfold sg; rw [if_neg (by omega)]
      walk_at "m"
      rw [s1, encQ_neg]
      refine ⟨congrArg encQ ?_, rfl⟩
      grind
end Mir
/-! law_k06's mirror says True: minors of the inverse. -/
namespace Mir
open PySem L2 ML LA
theorem bes_eq {n : Nat} {L : List Nat} : bes n L = (List.range n).filter fun x => !decide (x ∈ L) := by
  unfold bes
  congr 1
  funext x
  simp
theorem lot_self {n : Nat} {L : List Nat} (h : Lot n L) : L = (List.range n).filter fun x => decide (x ∈ L) := asc_eq h.2 (List.pairwise_lt_range.filter _) fun x => by
  rw [List.mem_filter, List.mem_range, decide_eq_true_eq]
  exact ⟨fun hx => ⟨h.1 x hx, hx⟩, fun hx => hx.2⟩
theorem det_lot {n : Nat} {L : List Nat} (h : Lot n L) : det n (fun i t => dl (two L.length (fun i => L.getD i 0) (fun i => (bes n L).getD i 0) i) t) = sg (L.sum + tri L.length) := by
  have d := det_two_lots (fun x => decide (x ∈ L)) n
  rw [← lot_self h, ← bes_eq] at d
  rw [← d]
  refine det_congr n fun i hi t _ => ?_
  have e : two L.length (fun i => L.getD i 0) (fun i => (bes n L).getD i 0) i = (L ++ bes n L).getD i 0 := by
    unfold two
    by_cases c : i < L.length
    · rw [if_pos c, getD_l c]
    · rw [if_neg c, getD_r (by omega)]
  rw [e]
theorem jacobi {n : Nat} {g g' : List (List Rat)} {I J : List Nat} (inv : Inv n (mat g) (mat g')) (hI : Lot n I) (hJ : Lot n J) (hl : J.length = I.length) : det (bes n I).length (mat (subT g' (bes n J) (bes n I))) = sg (I.sum + J.sum) * (det I.length (mat (subT g I J)) / det n (mat g)) := by
  have tI := lot_two hI
  have tJ := lot_two hJ
  have bl : (bes n J).length = (bes n I).length := by have := bes_len hI; have := bes_len hJ; omega
  have dI := det_lot hI
  have dJ := det_lot hJ
  rw [hl, bl] at tJ
  rw [hl] at dJ
  have key := jacobi0 inv tI tJ (by rw [dI]; exact sg_sq _)
  rw [dI, dJ] at key
  have e1 : det (bes n I).length (mat (subT g' (bes n J) (bes n I))) = det (bes n I).length (fun i j => mat g' ((bes n J).getD i 0) ((bes n I).getD j 0)) := det_congr _ fun i hi j hj => mat_sub (by omega) hj
  have e2 : det I.length (mat (subT g I J)) = det I.length (fun i j => mat g (I.getD i 0) (J.getD j 0)) := det_congr _ fun i hi j hj => mat_sub hi (by omega)
  have ab : det n (mat g) * det n (mat g') = 1 := by
    rw [← det_mul, det_congr n inv.1, det_dl]
  have a0 : det n (mat g) ≠ 0 := fun z => by rw [z] at ab; grind
  have b1 : det n (mat g') = 1 / det n (mat g) := by grind
  rw [e1, e2, key, b1, sg_add, sg_add, sg_add]
  have t1 := sg_sq (tri I.length)
  generalize sg (tri I.length) = t at t1 ⊢
  generalize sg J.sum = u
  generalize sg I.sum = v
  generalize det I.length (fun i j => mat g (I.getD i 0) (J.getD j 0)) = x
  generalize det n (mat g) = y at a0 ⊢
  grind
theorem det_qb {n b : Nat} {g : List (List Rat)} (h : Grid n n b g) (n5 : n ≤ 5) (hb : b ≤ 216) : Qb 100000 (det n (mat g)) := by
  have gl := h.tall
  have bb : b * (n + 1) ≤ 216 * 6 := Nat.mul_le_mul hb (by omega)
  have bb2 : b * n ≤ 216 * 5 := Nat.mul_le_mul hb n5
  let W : ZT := g.map whl
  have st := sta_start h.wide h.qb
  have Wl : W.length = n := by rw [← gl]; exact st.tall
  have Ww : ∀ r ∈ W, r.length = n ∧ ∀ x ∈ r, x.natAbs ≤ 2 ^ 1300 := fun r hr => by
    obtain ⟨i, hi, rfl⟩ := List.getElem_of_mem hr
    have e : W[i] = row W i := by unfold row; simp [List.getD, hi]
    rw [e]
    refine ⟨st.wide i (by omega), fun x hx => ?_⟩
    have := st.bits i (by omega) x hx
    have h2 : (2 : Nat) ^ ((b * (n + 1) + 1) * 2 ^ ([] : List Nat).length) ≤ 2 ^ 1300 := Nat.pow_le_pow_right (by decide) (by simp; omega)
    omega
  obtain ⟨DW, D1, D2, D3⟩ := minor_ok n 8 1300 W (by omega) (by omega) (by decide) Wl Ww
  have cb : ∀ r ∈ g, cmn r ≤ 2 ^ 1080 := fun r hr => Nat.le_trans (Nat.le_trans (cmn_le _ 1 0 (h.qb _ hr) (by simp)) (Nat.pow_le_pow_right (by decide) (by rw [h.wide r hr, Nat.zero_add]; exact Nat.le_refl _))) (Nat.pow_le_pow_right (by decide) bb2)
  have fb : ∀ (l : List (List Rat)) (s k : Nat), (∀ r ∈ l, cmn r ≤ 2 ^ 1080) → s ≤ 2 ^ (1080 * k) → l.foldl (fun s r => s * cmn r) s ≤ 2 ^ (1080 * (k + l.length)) := fun l => by
    induction l with
    | nil => exact fun s k _ h => h
    | cons r l ih =>
      intro s k hl hs
      rw [List.foldl_cons, List.length_cons, show k + (l.length + 1) = k + 1 + l.length by omega]
      refine ih _ (k + 1) (fun r hr => hl r (List.mem_cons_of_mem _ hr)) ?_
      rw [Nat.mul_add, Nat.pow_add]
      exact Nat.mul_le_mul hs (hl r List.mem_cons_self)
  have fp : ∀ (l : List (List Rat)) (s : Nat), 0 < s → 0 < l.foldl (fun s r => s * cmn r) s := fun l => by
    induction l with
    | nil => exact fun s h => h
    | cons r l ih => exact fun s h => ih _ (Nat.mul_pos h (cmn_pos r))
  have f0 := fp g 1 (by decide)
  have f1 := fb g 1 0 cb (by decide)
  have sc : det n (matZ W) = ((g.foldl (fun s r => s * cmn r) 1 : Nat) : Rat) * det n (mat g) := by
    rw [det_scale n (A := mat g) (c := fun i => ((cmn (g.getD i []) : Nat) : Rat)) fun i hi j _ => ent_whl (by omega) j]
    have := pr_fold cmn ([] : List Rat) g 1
    rw [gl] at this
    have e1 : ((1 : Nat) : Rat) = 1 := rfl
    rw [e1] at this
    rw [this]
    grind
  have e : det n (mat g) = Rat.divInt DW ((g.foldl (fun s r => s * cmn r) 1 : Nat) : Int) := by
    rw [Rat.divInt_eq_div, D2, sc]
    have s1 := nat_ne0 f0
    show _ = ((g.foldl (fun s r => s * cmn r) 1 : Nat) : Rat) * _ / ((g.foldl (fun s r => s * cmn r) 1 : Nat) : Rat)
    grind
  rw [e]
  have p1 : (2 : Nat) ^ ((1300 + 3) * n) < 2 ^ 100000 := Nat.pow_lt_pow_right (by decide) (by omega)
  have p2 : (2 : Nat) ^ (1080 * (0 + g.length)) < 2 ^ 100000 := Nat.pow_lt_pow_right (by decide) (by omega)
  exact qb_divInt (by omega) (by omega) (by omega)
theorem right06 {w : List D} (hw : WellOk 0 w) : ROk (mir__law_right_v8 [.list w]) fun d _ => d = .bool true := by
  unfold mir__law_right_v8
  refine ROk.mDef (env := [some _, none, none, none, none, none, none, none]) rfl rfl ?_
  unfold body__law_right_v8
  walk_at "m"
  refine (many_ok hw (by decide)).imp ?_
  rintro _ _ ⟨n, w1, rfl, n1, n5, rfl, h1⟩
  walk_at "m"
  refine (lregular_ok h1 (n := n) (by omega) n5 (by decide)).imp ?_
  rintro _ _ ⟨g, w2, rfl, hg, hr, rfl, h2⟩
  obtain ⟨dI, oI, i1, i2, g', rfl, hg', inv⟩ := (inverse_ok hg (by omega) n5 hr (by decide) (by decide)).ex
  rw [i2] at i1
  obtain ⟨m, rfl⟩ : ∃ m, n = m + 1 := ⟨n - 1, by omega⟩
  have un := undone_eq hg n5 (by decide) hr hg' inv
  have w0 : det (m + 1) (mat g) ≠ 0 := det_ne hr
  have wq := det_qb hg n5 (by decide)
  walk_at "m"
  refine ROk.of_eq i1 ?_
  walk_at "m"
  refine ROk.of_eq (ldet_eq hg n5 (by decide)) ?_
  walk_at "m"
  refine (draw_ok h2 (by omega) (by omega) (by decide)).imp ?_
  rintro _ _ ⟨f, w3, rfl, f0, f1, rfl, h3⟩
  obtain ⟨few, rfl⟩ : ∃ j : Nat, f = (j : Int) := ⟨f.toNat, by omega⟩
  walk_at "m"
  refine (lotof_ok h3 n5 (few := few) (by omega) (by decide)).imp ?_
  rintro _ _ ⟨I, w4, rfl, hI, il, rfl, h4⟩
  walk_at "m"
  refine ROk.of_eq (det_eq hg (by omega) n5 (by decide)) ?_
  walk_at "m"
  refine ROk.of_eq un ?_
  walk_at "m"
  have pp : Pl 4 (.tuple [encTab g', encQ (det (m + 1) (mat g))]) := ⟨by show 2 ≤ 1000; decide, fun z hz => by
    simp only [List.mem_cons, List.not_mem_nil, or_false] at hz
    rcases hz with rfl | rfl
    · exact pl_tab (by rw [hg'.tall]; omega) fun r hr => by rw [hg'.wide r hr]; omega
    · exact (pl_q _).mono (by decide)⟩
  refine ROk.of_eq (same_at pp (by decide)) ?_
  walk_at "m"
  refine (lots_ok n5).imp ?_
  rintro _ _ ⟨rfl, Ls, rfl, hLs, hlen⟩
  walk_at "m"
  refine Fine.each_map encNs (fun rem e => ∃ (x6 x7 : Option D), e = [some (.list w4), some (.int ((m + 1 : Nat) : Int)), some (encTab g), some (encTab g'), some (encQ (det (m + 1) (mat g))), some (encNs I), x6, x7] ∧ ∀ L ∈ rem, Lot (m + 1) L) ?_ ?_ _ ?_
  · rintro J rem e ⟨x6, x7, rfl, hL⟩
    have hJ := hL J (List.mem_cons_self ..)
    have hrem : ∀ L ∈ rem, Lot (m + 1) L := fun L h => hL L (List.mem_cons_of_mem _ h)
    have lI := lot_len hI
    have lJ := lot_len hJ
    walk_at "m"
    refine ⟨fun z => ?_, fun z => ?_⟩
    · have z : ((((J.map enI).length : Nat) : Int) == (((I.map enI).length : Nat) : Int)) = true := z
      have hl : J.length = I.length := by
        have := eq_of_beq z
        rw [List.length_map, List.length_map] at this
        omega
      have bI := bes_len hI
      have bJ := bes_len hJ
      have bl : (bes (m + 1) J).length = (bes (m + 1) I).length := by omega
      have gs : Grid (bes (m + 1) I).length (bes (m + 1) I).length 80000 (subT g' (bes (m + 1) J) (bes (m + 1) I)) := by
        have := hg'.sub (I := bes (m + 1) J) (J := bes (m + 1) I) bes_lot.1 bes_lot.1
        rw [bl] at this
        exact this
      have gI : Grid I.length I.length 216 (subT g I J) := by
        have := hg.sub (I := I) (J := J) hI.1 hJ.1
        rw [hl] at this
        exact this
      walk_at "m"
      refine ROk.of_eq (lbeside_eq (by omega)) ?_
      walk_at "m"
      refine ROk.of_eq (lbeside_eq (by omega)) ?_
      walk_at "m"
      refine ROk.of_eq (part_eq hg' (by omega) (by omega) (by omega) (by omega) bes_lot bes_lot) ?_
      walk_at "m"
      refine ROk.of_eq (det_eq gs (by omega) (by omega) (by decide)) ?_
      walk_at "m"
      refine ROk.of_eq (ldue_eq hg n5 (by decide) hI hJ hl w0 wq (det_qb gI (by omega) (by decide))) ?_
      walk_at "m"
      rw [jacobi inv hI hJ hl]
      refine ROk.of_eq (same_at (n := 1) (pl_q _) (by decide)) ?_
      walk_at "m"
      exact ⟨_, _, rfl, hrem⟩
    · walk_at "m"
      exact ⟨_, _, rfl, hrem⟩
  · rintro e ⟨x6, x7, rfl, _⟩
    refine .inl ⟨rfl, ?_⟩
    walk_at "m"
    rfl
  · exact ⟨none, none, rfl, hLs⟩
theorem law06 (ns : List Int) : ∃ out, mir_law_v8 [.list (ns.map PyData.int)] = .ok (.bool true) out := by
  have h : ROk (mir_law_v8 [.list (ns.map PyData.int)]) fun d _ => d = .bool true := law_genG (lo := 1) (hi := 2) (mr := mir__law_right_v8) (mw := mir__law_well_v8) (c := 33713) (by decide) (by decide) (by decide) (by decide) rfl (by decide) (by decide) (fun w hw => right06 hw) ns
  obtain ⟨d, o, h1, rfl⟩ := h.ex
  exact ⟨o, h1⟩
end Mir
/-! The defs of law_k06_whole_minors_of_the_inverse do what their mirrors do. -/
namespace K06
open PySem PySem.Spec PyProof.Rows L2 RZ Mir ML
def top (i : Nat) : Stmt := PySem.Challenge.pw_cornerranks_k06_whole_minors_of_the_inve.main.body.getD i (.Pass ⟨0, 0, 0, 0⟩)
theorem sc__law_draw : FnScope ["well", "many", "figure", "seed"] ["well", "many"] (defScope (top 41)) := ⟨rfl, rfl, rfl, by decide +kernel, rfl, by decide +kernel, by decide +kernel⟩
theorem ok__law_draw {P : Program} {w : World} {K : PySem.W.Frag} {mg : Str → Option Value} {base : Heap} {T0 : List Addr} {f : Addr} {kV doc pm cd ct : Value} {an : Option Addr} (F : FunC K "_law_draw" (top 41) f kV doc pm cd ct an) (hmg : mg "_law_draw" = some (.ref f)) (bl : ∀ x ∈ (["divmod", "int"] : List Str), mg x = none)
    (hS : Sees P base) : DefOk P w K mg base T0 33 "_law_draw" (top 41) ["well", "many"] true false mir__law_draw := by
    have S := sc__law_draw
    refine defOk_mk (k := 32) F S [true, false, false, false] true false body__law_draw hmg (fun us hl => match us, hl with | [_, _], _ => rfl) (by rfl) (by decide) fun T hT A outer s H G b E hr => ?_
    have hPy : PyR (cxOf (L2.CX P w) P w K mg base ["well", "many", "figure", "seed"] "_law_draw" (defScope (top 41)) f cd A outer s H E) := pyR_of hS hr (by decide) rfl rfl
    exact (ss_cons (s_if (t_cmp op_gt opS_cmp (e_ixS (i := 0) rfl e_int) e_int (nomark _)) (ss_cons (s_asg (e_bi call_divmodW caS_divmod (bl "divmod" (by decide)) (a_cons (e_ixS (i := 0) rfl e_int) (a_cons (e_var 1) a_nil))) (gL_tup rfl rfl (gsL_cons (gL_put (i := 0) (us := [2]) e_int) (gsL_cons (gL_name (i := 2) (us := [2]) S.nd) gsL_nil))))
  (ss_one (s_ret (e_var 2)))) ss_nil)
  (ss_cons (s_asg (e_add rfl (e_ixS (i := 0) rfl e_int) e_int) (gL_put (i := 0) (us := []) e_int))
  (ss_cons (s_set (i := 3) S.nd (e_mod (e_ty call_int1 caS_int (bl "int" (by decide)) (a_cons (e_add rfl (e_ixS (i := 0) rfl e_int) (e_mul rfl e_int (e_ixS (i := 0) rfl e_int))) a_nil)) e_int))
  (ss_cons (s_asg (e_mod (e_ty call_int1 caS_int (bl "int" (by decide)) (a_cons (e_add rfl (e_mul rfl (e_var 3) (e_add rfl (e_mod (e_ty call_int1 caS_int (bl "int" (by decide)) (a_cons (e_var 3) a_nil)) e_int) e_int)) (e_mul rfl e_int (e_ixS (i := 0) rfl e_int))) a_nil)) e_int) (gL_put (i := 0) (us := []) e_int))
  (ss_one (s_ret (e_mod (e_ty call_int1 caS_int (bl "int" (by decide)) (a_cons (e_divP hPy (e_ixS (i := 0) rfl e_int) e_int) a_nil)) (e_var 1))))))))
theorem sc__law_many : FnScope ["well"] ["well"] (defScope (top 53)) := ⟨rfl, rfl, rfl, by decide +kernel, rfl, by decide +kernel, by decide +kernel⟩
theorem ok__law_many {P : Program} {w : World} {K : PySem.W.Frag} {mg : Str → Option Value} {base : Heap} {T0 : List Addr} {f : Addr} {kV doc pm cd ct : Value} {an : Option Addr} (F : FunC K "_law_many" (top 53) f kV doc pm cd ct an) (hmg : mg "_law_many" = some (.ref f)) (bl : ∀ x ∈ ([] : List Str), mg x = none)
    (d__law_draw : DefOk P w K mg base T0 33 "_law_draw" (top 41) ["well", "many"] true false mir__law_draw) : DefOk P w K mg base T0 34 "_law_many" (top 53) ["well"] true false mir__law_many := by
    have S := sc__law_many
    refine defOk_mk (k := 33) F S [true] true false body__law_many hmg (fun us hl => match us, hl with | [_], _ => rfl) (by rfl) (by decide) fun T hT A outer s H G b E hr => ?_
    exact (ss_one (s_ret (e_ix rfl (e_tup (a_cons e_int (a_cons e_int (a_cons e_int (a_cons e_int (a_cons e_int (a_cons e_int (a_cons e_int (a_cons e_int (a_cons e_int (a_cons e_int (a_cons e_int (a_cons e_int a_nil))))))))))))) (e_callID 0 d__law_draw rfl hT (hr.mono (by decide : 33 ≤ 33)) (a_cons e_int a_nil)))))
theorem sc__law_flip : FnScope ["grid", "line", "spot"] ["grid"] (defScope (top 45)) := ⟨rfl, rfl, rfl, by decide +kernel, rfl, by decide +kernel, by decide +kernel⟩
theorem ok__law_flip {P : Program} {w : World} {K : PySem.W.Frag} {mg : Str → Option Value} {base : Heap} {T0 : List Addr} {f : Addr} {kV doc pm cd ct : Value} {an : Option Addr} (F : FunC K "_law_flip" (top 45) f kV doc pm cd ct an) (hmg : mg "_law_flip" = some (.ref f)) (bl : ∀ x ∈ (["len", "range", "tuple"] : List Str), mg x = none)
     : DefOk P w K mg base T0 1 "_law_flip" (top 45) ["grid"] false false mir__law_flip := by
    have S := sc__law_flip
    refine defOk_mk (k := 0) F S [false, false, false] false false body__law_flip hmg (fun us hl => match us, hl with | [_], _ => rfl) (by rfl) (by decide) fun T hT A outer s H G b E hr => ?_
    exact (ss_one (s_ret (e_ty call_tuple_of (caS_tuple rfl) (bl "tuple" (by decide)) (a_cons (e_own (o_comp (ow := [("spot", 2)]) [2] rfl rfl S.nd (i_range1 rfl (bl "range" (by decide)) (a_cons (e_bi call_len_seq (caS_len rfl) (bl "len" (by decide)) (a_cons (e_ix rfl (e_var 0) e_int) a_nil)) a_nil)) (blkOk_by (by rfl)) (muAll (by rfl)) (fun _ _ _ _ _ _ _ _ => (gL_name (i := 2) (us := [2]) S.nd)) (fun _ _ _ _ _ _ _ _ => ts_nil) (fun _ _ _ _ _ _ _ _ => (e_ty call_tuple_of (caS_tuple rfl) (bl "tuple" (by decide)) (a_cons (e_own (o_comp (ow := [("line", 1)]) [1] rfl rfl S.nd (i_seq rfl (e_var 0)) (blkOk_by (by rfl)) (muAll (by rfl)) (fun _ _ _ _ _ _ _ _ => (gL_name (i := 1) (us := [1]) S.nd)) (fun _ _ _ _ _ _ _ _ => ts_nil) (fun _ _ _ _ _ _ _ _ => (e_ix rfl (e_var 1) (e_var 2))))) a_nil))))) a_nil))))
theorem sc__law_lean : FnScope ["top", "low", "far", "near"] ["top", "low"] (defScope (top 43)) := ⟨rfl, rfl, rfl, by decide +kernel, rfl, by decide +kernel, by decide +kernel⟩
theorem ok__law_lean {P : Program} {w : World} {K : PySem.W.Frag} {mg : Str → Option Value} {base : Heap} {T0 : List Addr} {f : Addr} {kV doc pm cd ct : Value} {an : Option Addr} (F : FunC K "_law_lean" (top 43) f kV doc pm cd ct an) (hmg : mg "_law_lean" = some (.ref f)) (bl : ∀ x ∈ (["abs", "int"] : List Str), mg x = none)
    (hS : Sees P base) : DefOk P w K mg base T0 33 "_law_lean" (top 43) ["top", "low"] false false mir__law_lean := by
    have S := sc__law_lean
    refine defOk_mk (k := 32) F S [false, false, false, false] false false body__law_lean hmg (fun us hl => match us, hl with | [_, _], _ => rfl) (by rfl) (by decide) fun T hT A outer s H G b E hr => ?_
    have hPy : PyR (cxOf (L2.CX P w) P w K mg base ["top", "low", "far", "near"] "_law_lean" (defScope (top 43)) f cd A outer s H E) := pyR_of hS hr (by decide) rfl rfl
    exact (ss_cons (s_par (i := 2) (j := 3) rfl S.nd (aO_val (e_bi call_abs caS_I1 (bl "abs" (by decide)) (a_cons (e_var 0) a_nil)) (aO_val (e_bi call_abs caS_I1 (bl "abs" (by decide)) (a_cons (e_var 1) a_nil)) aO_nil)) rfl)
  (ss_cons (s_while ML.turns_law_lean (passes_of rfl) (t_cmp (op_neE (hr.mono (by decide : 0 ≤ 32)).units) (opS_neE rfl) (e_var 3) e_int (nomark _)) (ss_one (s_par (i := 2) (j := 3) rfl S.nd (aO_val (e_var 3) (aO_val (e_mod (e_ty call_int1 caS_int (bl "int" (by decide)) (a_cons (e_var 2) a_nil)) (e_var 3)) aO_nil)) rfl)))
  (ss_cons (s_set (i := 2) S.nd (e_if (t_cmp op_gt opS_cmp (e_var 1) e_int (nomark _)) (e_var 2) (e_sub e_int (e_var 2))))
  (ss_one (s_ret (e_tup (a_cons (e_divP hPy (e_var 0) (e_var 2)) (a_cons (e_divP hPy (e_var 1) (e_var 2)) a_nil))))))))
theorem sc__law_dot : FnScope ["one", "two", "top", "low", "here", "there", "both"] ["one", "two"] (defScope (top 44)) := ⟨rfl, rfl, rfl, by decide +kernel, rfl, by decide +kernel, by decide +kernel⟩
theorem ok__law_dot {P : Program} {w : World} {K : PySem.W.Frag} {mg : Str → Option Value} {base : Heap} {T0 : List Addr} {f : Addr} {kV doc pm cd ct : Value} {an : Option Addr} (F : FunC K "_law_dot" (top 44) f kV doc pm cd ct an) (hmg : mg "_law_dot" = some (.ref f)) (bl : ∀ x ∈ (["zip"] : List Str), mg x = none)
    (d__law_lean : DefOk P w K mg base T0 33 "_law_lean" (top 43) ["top", "low"] false false mir__law_lean) : DefOk P w K mg base T0 34 "_law_dot" (top 44) ["one", "two"] false false mir__law_dot := by
    have S := sc__law_dot
    refine defOk_mk (k := 33) F S [false, false, false, false, false, false, false] false false body__law_dot hmg (fun us hl => match us, hl with | [_, _], _ => rfl) (by rfl) (by decide) fun T hT A outer s H G b E hr => ?_
    exact (ss_cons (s_asg (e_tup (a_cons e_int (a_cons e_int a_nil))) (gL_tup rfl rfl (gsL_cons (gL_name (i := 2) (us := [2, 3]) S.nd) (gsL_cons (gL_name (i := 3) (us := [2, 3]) S.nd) gsL_nil))))
  (ss_cons (s_for (passes_of rfl) rfl (i_zip rfl (a_cons (e_var 0) (a_cons (e_var 1) a_nil)) (bl "zip" (by decide))) (gL_tup rfl rfl (gsL_cons (gL_name (i := 4) (us := [4, 5]) S.nd) (gsL_cons (gL_name (i := 5) (us := [4, 5]) S.nd) gsL_nil))) (ss_cons (s_set (i := 6) S.nd (e_mul rfl (e_ix rfl (e_var 4) e_int) (e_ix rfl (e_var 5) e_int)))
  (ss_one (s_par (i := 2) (j := 3) rfl S.nd (aO_val (e_add rfl (e_mul rfl (e_var 2) (e_var 6)) (e_mul rfl (e_mul rfl (e_ix rfl (e_var 4) e_int) (e_ix rfl (e_var 5) e_int)) (e_var 3))) (aO_val (e_mul rfl (e_var 3) (e_var 6)) aO_nil)) rfl))))
  (ss_one (s_ret (e_callD d__law_lean rfl hT (hr.mono (by decide : 33 ≤ 33)) (a_cons (e_var 2) (a_cons (e_var 3) a_nil)))))))
theorem sc__law_mul : FnScope ["one", "two", "sides", "side", "line"] ["one", "two"] (defScope (top 46)) := ⟨rfl, rfl, rfl, by decide +kernel, rfl, by decide +kernel, by decide +kernel⟩
theorem ok__law_mul {P : Program} {w : World} {K : PySem.W.Frag} {mg : Str → Option Value} {base : Heap} {T0 : List Addr} {f : Addr} {kV doc pm cd ct : Value} {an : Option Addr} (F : FunC K "_law_mul" (top 46) f kV doc pm cd ct an) (hmg : mg "_law_mul" = some (.ref f)) (bl : ∀ x ∈ (["tuple"] : List Str), mg x = none)
    (d__law_flip : DefOk P w K mg base T0 1 "_law_flip" (top 45) ["grid"] false false mir__law_flip)
    (d__law_dot : DefOk P w K mg base T0 34 "_law_dot" (top 44) ["one", "two"] false false mir__law_dot) : DefOk P w K mg base T0 35 "_law_mul" (top 46) ["one", "two"] false false mir__law_mul := by
    have S := sc__law_mul
    refine defOk_mk (k := 34) F S [false, false, false, false, false] false false body__law_mul hmg (fun us hl => match us, hl with | [_, _], _ => rfl) (by rfl) (by decide) fun T hT A outer s H G b E hr => ?_
    exact (ss_cons (s_set (i := 2) S.nd (e_callD d__law_flip rfl hT (hr.mono (by decide : 1 ≤ 34)) (a_cons (e_var 1) a_nil)))
  (ss_one (s_ret (e_ty call_tuple_of (caS_tuple rfl) (bl "tuple" (by decide)) (a_cons (e_own (o_comp (ow := [("line", 4)]) [4] rfl rfl S.nd (i_seq rfl (e_var 0)) (blkOk_by (by rfl)) (muAll (by rfl)) (fun _ _ _ _ _ _ _ _ => (gL_name (i := 4) (us := [4]) S.nd)) (fun _ _ _ _ _ _ _ _ => ts_nil) (fun _ _ _ _ _ _ _ _ => (e_ty call_tuple_of (caS_tuple rfl) (bl "tuple" (by decide)) (a_cons (e_own (o_comp (ow := [("side", 3)]) [3] rfl rfl S.nd (i_seq rfl (e_var 2)) (blkOk_by (by rfl)) (muAll (by rfl)) (fun _ _ _ _ _ _ _ _ => (gL_name (i := 3) (us := [3]) S.nd)) (fun _ _ _ _ _ _ _ _ => ts_nil) (fun _ _ _ _ _ _ _ _ => (e_callD d__law_dot rfl hT (hr.mono (by decide : 34 ≤ 34)) (a_cons (e_var 4) (a_cons (e_var 3) a_nil)))))) a_nil))))) a_nil)))))
theorem sc__law_pick : FnScope ["well", "some"] ["well", "some"] (defScope (top 42)) := ⟨rfl, rfl, rfl, by decide +kernel, rfl, by decide +kernel, by decide +kernel⟩
theorem ok__law_pick {P : Program} {w : World} {K : PySem.W.Frag} {mg : Str → Option Value} {base : Heap} {T0 : List Addr} {f : Addr} {kV doc pm cd ct : Value} {an : Option Addr} (F : FunC K "_law_pick" (top 42) f kV doc pm cd ct an) (hmg : mg "_law_pick" = some (.ref f)) (bl : ∀ x ∈ (["len"] : List Str), mg x = none)
    (d__law_draw : DefOk P w K mg base T0 33 "_law_draw" (top 41) ["well", "many"] true false mir__law_draw) : DefOk P w K mg base T0 34 "_law_pick" (top 42) ["well", "some"] true false mir__law_pick := by
    have S := sc__law_pick
    refine defOk_mk (k := 33) F S [true, false] true false body__law_pick hmg (fun us hl => match us, hl with | [_, _], _ => rfl) (by rfl) (by decide) fun T hT A outer s H G b E hr => ?_
    exact (ss_one (s_ret (e_ix rfl (e_var 1) (e_callID 0 d__law_draw rfl hT (hr.mono (by decide : 33 ≤ 33)) (a_cons (e_bi call_len_seq (caS_len rfl) (bl "len" (by decide)) (a_cons (e_var 1) a_nil)) a_nil)))))
theorem sc__law_number : FnScope ["well", "branch"] ["well"] (defScope (top 47)) := ⟨rfl, rfl, rfl, by decide +kernel, rfl, by decide +kernel, by decide +kernel⟩
theorem ok__law_number {P : Program} {w : World} {K : PySem.W.Frag} {mg : Str → Option Value} {base : Heap} {T0 : List Addr} {f : Addr} {kV doc pm cd ct : Value} {an : Option Addr} (F : FunC K "_law_number" (top 47) f kV doc pm cd ct an) (hmg : mg "_law_number" = some (.ref f)) (bl : ∀ x ∈ ([] : List Str), mg x = none)
    (d__law_draw : DefOk P w K mg base T0 33 "_law_draw" (top 41) ["well", "many"] true false mir__law_draw)
    (d__law_lean : DefOk P w K mg base T0 33 "_law_lean" (top 43) ["top", "low"] false false mir__law_lean) : DefOk P w K mg base T0 34 "_law_number" (top 47) ["well"] true false mir__law_number := by
    have S := sc__law_number
    refine defOk_mk (k := 33) F S [true, false] true false body__law_number hmg (fun us hl => match us, hl with | [_], _ => rfl) (by rfl) (by decide) fun T hT A outer s H G b E hr => ?_
    exact (ss_cons (s_set (i := 1) S.nd (e_callID 0 d__law_draw rfl hT (hr.mono (by decide : 33 ≤ 33)) (a_cons e_int a_nil)))
  (ss_cons (s_if ((t_and (t_cmp (op_eqD (hr.mono (by decide : 0 ≤ 33)).units) (opS_eq rfl) (e_var 1) e_int (nomark _)) (t_and1 (t_cmp op_gt opS_cmp (e_ixS (i := 0) rfl e_int) e_int (nomark _))))).pt (ss_cons (s_asg e_int (gL_put (i := 0) (us := []) e_int))
  (ss_one (s_ret (e_callD d__law_lean rfl hT (hr.mono (by decide : 33 ≤ 33)) (a_cons (e_sub (e_callID 0 d__law_draw rfl hT (hr.mono (by decide : 33 ≤ 33)) (a_cons e_int a_nil)) e_int) (a_cons (e_add rfl e_int (e_callID 0 d__law_draw rfl hT (hr.mono (by decide : 33 ≤ 33)) (a_cons e_int a_nil))) a_nil)))))) ss_nil)
  (ss_cons (s_if (t_cmp op_lt opS_cmp (e_var 1) e_int (nomark _)) (ss_one (s_ret (e_tup (a_cons (e_ix rfl (e_tup (a_cons e_int (a_cons e_int (a_cons (e_neg e_int) (a_cons e_int (a_cons e_int (a_cons e_int (a_cons (e_neg e_int) (a_cons e_int a_nil))))))))) (e_callID 0 d__law_draw rfl hT (hr.mono (by decide : 33 ≤ 33)) (a_cons e_int a_nil))) (a_cons e_int a_nil))))) ss_nil)
  (ss_one (s_ret (e_callD d__law_lean rfl hT (hr.mono (by decide : 33 ≤ 33)) (a_cons (e_sub (e_callID 0 d__law_draw rfl hT (hr.mono (by decide : 33 ≤ 33)) (a_cons e_int a_nil)) e_int) (a_cons (e_add rfl e_int (e_callID 0 d__law_draw rfl hT (hr.mono (by decide : 33 ≤ 33)) (a_cons e_int a_nil))) a_nil))))))))
theorem sc__law_spare : FnScope ["well", "many", "often", "found", "turn"] ["well", "many", "often"] (defScope (top 49)) := ⟨rfl, rfl, rfl, by decide +kernel, rfl, by decide +kernel, by decide +kernel⟩
theorem ok__law_spare {P : Program} {w : World} {K : PySem.W.Frag} {mg : Str → Option Value} {base : Heap} {T0 : List Addr} {f : Addr} {kV doc pm cd ct : Value} {an : Option Addr} (F : FunC K "_law_spare" (top 49) f kV doc pm cd ct an) (hmg : mg "_law_spare" = some (.ref f)) (bl : ∀ x ∈ (["range", "tuple"] : List Str), mg x = none)
    (d__law_draw : DefOk P w K mg base T0 33 "_law_draw" (top 41) ["well", "many"] true false mir__law_draw)
    (d__law_number : DefOk P w K mg base T0 34 "_law_number" (top 47) ["well"] true false mir__law_number) : DefOk P w K mg base T0 35 "_law_spare" (top 49) ["well", "many", "often"] true false mir__law_spare := by
    have S := sc__law_spare
    refine defOk_mk (k := 34) F S [true, false, false, true, false] true false body__law_spare hmg (fun us hl => match us, hl with | [_, _, _], _ => rfl) (by rfl) (by decide) fun T hT A outer s H G b E hr => ?_
    exact (ss_cons (s_setO (i := 3) S.nd (o_lst a_nil))
  (ss_cons (s_for (passes_of rfl) rfl (i_range1 rfl (bl "range" (by decide)) (a_cons (e_var 1) a_nil)) (gL_name (i := 4) (us := [4]) S.nd) (ss_one (s_app (i := 3) rfl (e_if (t_cmp op_ge opS_cmp (e_callID 0 d__law_draw rfl hT (hr.mono (by decide : 33 ≤ 34)) (a_cons e_int a_nil)) (e_var 2) (nomark _)) (e_callID 0 d__law_number rfl hT (hr.mono (by decide : 34 ≤ 34)) a_nil) (e_tup (a_cons e_int (a_cons e_int a_nil)))))))
  (ss_one (s_ret (e_tupS (i := 3) rfl (bl "tuple" (by decide)))))))
theorem sc__law_lead : FnScope ["well", "found"] ["well"] (defScope (top 48)) := ⟨rfl, rfl, rfl, by decide +kernel, rfl, by decide +kernel, by decide +kernel⟩
theorem ok__law_lead {P : Program} {w : World} {K : PySem.W.Frag} {mg : Str → Option Value} {base : Heap} {T0 : List Addr} {f : Addr} {kV doc pm cd ct : Value} {an : Option Addr} (F : FunC K "_law_lead" (top 48) f kV doc pm cd ct an) (hmg : mg "_law_lead" = some (.ref f)) (bl : ∀ x ∈ ([] : List Str), mg x = none)
    (d__law_number : DefOk P w K mg base T0 34 "_law_number" (top 47) ["well"] true false mir__law_number) : DefOk P w K mg base T0 35 "_law_lead" (top 48) ["well"] true false mir__law_lead := by
    have S := sc__law_lead
    refine defOk_mk (k := 34) F S [true, false] true false body__law_lead hmg (fun us hl => match us, hl with | [_], _ => rfl) (by rfl) (by decide) fun T hT A outer s H G b E hr => ?_
    exact (ss_cons (s_set (i := 1) S.nd (e_callID 0 d__law_number rfl hT (hr.mono (by decide : 34 ≤ 34)) a_nil))
  (ss_one (s_ret (e_if (t_cmp (op_neE (hr.mono (by decide : 0 ≤ 34)).units) (opS_neE rfl) (e_ix rfl (e_var 1) e_int) e_int (nomark _)) (e_var 1) (e_tup (a_cons e_int (a_cons e_int a_nil)))))))
theorem sc__law_stairs : FnScope ["well", "many", "low", "high", "spare_low", "spare_high", "spot"] ["well", "many"] (defScope (top 50)) := ⟨rfl, rfl, rfl, by decide +kernel, rfl, by decide +kernel, by decide +kernel⟩
theorem ok__law_stairs {P : Program} {w : World} {K : PySem.W.Frag} {mg : Str → Option Value} {base : Heap} {T0 : List Addr} {f : Addr} {kV doc pm cd ct : Value} {an : Option Addr} (F : FunC K "_law_stairs" (top 50) f kV doc pm cd ct an) (hmg : mg "_law_stairs" = some (.ref f)) (bl : ∀ x ∈ (["range", "tuple"] : List Str), mg x = none)
    (d__law_pick : DefOk P w K mg base T0 34 "_law_pick" (top 42) ["well", "some"] true false mir__law_pick)
    (d__law_spare : DefOk P w K mg base T0 35 "_law_spare" (top 49) ["well", "many", "often"] true false mir__law_spare)
    (d__law_lead : DefOk P w K mg base T0 35 "_law_lead" (top 48) ["well"] true false mir__law_lead)
    (d__law_mul : DefOk P w K mg base T0 35 "_law_mul" (top 46) ["one", "two"] false false mir__law_mul) : DefOk P w K mg base T0 36 "_law_stairs" (top 50) ["well", "many"] true false mir__law_stairs := by
    have S := sc__law_stairs
    refine defOk_mk (k := 35) F S [true, false, true, true, false, false, false] true false body__law_stairs hmg (fun us hl => match us, hl with | [_, _], _ => rfl) (by rfl) (by decide) fun T hT A outer s H G b E hr => ?_
    exact (ss_cons (s_par (i := 2) (j := 3) rfl S.nd (aO_own (o_lst a_nil) fun _ _ _ => (aO_own (o_lst a_nil) fun _ _ _ => aO_nil)) rfl)
  (ss_cons (s_par (i := 4) (j := 5) rfl S.nd (aO_val (e_callID 0 d__law_pick rfl hT (hr.mono (by decide : 34 ≤ 35)) (a_cons (e_tup (a_cons e_int (a_cons e_int (a_cons e_int (a_cons e_int a_nil))))) a_nil)) (aO_val (e_callID 0 d__law_pick rfl hT (hr.mono (by decide : 34 ≤ 35)) (a_cons (e_tup (a_cons e_int (a_cons e_int (a_cons e_int (a_cons e_int a_nil))))) a_nil)) aO_nil)) rfl)
  (ss_cons (s_for (passes_of rfl) rfl (i_range1 rfl (bl "range" (by decide)) (a_cons (e_var 1) a_nil)) (gL_name (i := 6) (us := [6]) S.nd) (ss_cons (s_app (i := 2) rfl (e_add rfl (e_add rfl (e_callID 0 d__law_spare rfl hT (hr.mono (by decide : 35 ≤ 35)) (a_cons (e_var 6) (a_cons (e_var 4) a_nil))) (e_tup (a_cons (e_tup (a_cons e_int (a_cons e_int a_nil))) a_nil))) (e_mul rfl (e_tup (a_cons (e_tup (a_cons e_int (a_cons e_int a_nil))) a_nil)) (e_sub (e_sub (e_var 1) e_int) (e_var 6)))))
  (ss_one (s_app (i := 3) rfl (e_add rfl (e_add rfl (e_mul rfl (e_tup (a_cons (e_tup (a_cons e_int (a_cons e_int a_nil))) a_nil)) (e_var 6)) (e_tup (a_cons (e_callID 0 d__law_lead rfl hT (hr.mono (by decide : 35 ≤ 35)) a_nil) a_nil))) (e_callID 0 d__law_spare rfl hT (hr.mono (by decide : 35 ≤ 35)) (a_cons (e_sub (e_sub (e_var 1) e_int) (e_var 6)) (a_cons (e_var 5) a_nil))))))))
  (ss_one (s_ret (e_callD d__law_mul rfl hT (hr.mono (by decide : 35 ≤ 35)) (a_cons (e_tupS (i := 2) rfl (bl "tuple" (by decide))) (a_cons (e_tupS (i := 3) rfl (bl "tuple" (by decide))) a_nil))))))))
theorem sc__law_mixed : FnScope ["well", "grid", "left", "found", "turn"] ["well", "grid"] (defScope (top 51)) := ⟨rfl, rfl, rfl, by decide +kernel, rfl, by decide +kernel, by decide +kernel⟩
theorem ok__law_mixed {P : Program} {w : World} {K : PySem.W.Frag} {mg : Str → Option Value} {base : Heap} {T0 : List Addr} {f : Addr} {kV doc pm cd ct : Value} {an : Option Addr} (F : FunC K "_law_mixed" (top 51) f kV doc pm cd ct an) (hmg : mg "_law_mixed" = some (.ref f)) (bl : ∀ x ∈ (["len", "list", "range", "tuple"] : List Str), mg x = none)
    (d__law_draw : DefOk P w K mg base T0 33 "_law_draw" (top 41) ["well", "many"] true false mir__law_draw) : DefOk P w K mg base T0 34 "_law_mixed" (top 51) ["well", "grid"] true false mir__law_mixed := by
    have S := sc__law_mixed
    refine defOk_mk (k := 33) F S [true, false, true, true, false] true false body__law_mixed hmg (fun us hl => match us, hl with | [_, _], _ => rfl) (by rfl) (by decide) fun T hT A outer s H G b E hr => ?_
    exact (ss_cons (s_par (i := 2) (j := 3) rfl S.nd (aO_own (o_listOf rfl (e_var 1) (bl "list" (by decide))) fun _ _ _ => (aO_own (o_lst a_nil) fun _ _ _ => aO_nil)) rfl)
  (ss_cons (s_for (passes_of rfl) rfl (i_range1 rfl (bl "range" (by decide)) (a_cons (e_bi call_len_seq (caS_len rfl) (bl "len" (by decide)) (a_cons (e_var 1) a_nil)) a_nil)) (gL_name (i := 4) (us := [4]) S.nd) (ss_one (s_app (i := 3) rfl (e_popAt (i := 2) (e_callID 0 d__law_draw rfl hT (hr.mono (by decide : 33 ≤ 33)) (a_cons (e_lenS (i := 2) rfl (bl "len" (by decide))) a_nil))))))
  (ss_one (s_ret (e_tupS (i := 3) rfl (bl "tuple" (by decide)))))))
theorem sc__law_regular : FnScope ["well", "many", "found"] ["well", "many"] (defScope (top 52)) := ⟨rfl, rfl, rfl, by decide +kernel, rfl, by decide +kernel, by decide +kernel⟩
theorem ok__law_regular {P : Program} {w : World} {K : PySem.W.Frag} {mg : Str → Option Value} {base : Heap} {T0 : List Addr} {f : Addr} {kV doc pm cd ct : Value} {an : Option Addr} (F : FunC K "_law_regular" (top 52) f kV doc pm cd ct an) (hmg : mg "_law_regular" = some (.ref f)) (bl : ∀ x ∈ ([] : List Str), mg x = none)
    (d__law_stairs : DefOk P w K mg base T0 36 "_law_stairs" (top 50) ["well", "many"] true false mir__law_stairs)
    (d__law_draw : DefOk P w K mg base T0 33 "_law_draw" (top 41) ["well", "many"] true false mir__law_draw)
    (d__law_mixed : DefOk P w K mg base T0 34 "_law_mixed" (top 51) ["well", "grid"] true false mir__law_mixed) : DefOk P w K mg base T0 37 "_law_regular" (top 52) ["well", "many"] true false mir__law_regular := by
    have S := sc__law_regular
    refine defOk_mk (k := 36) F S [true, false, false] true false body__law_regular hmg (fun us hl => match us, hl with | [_, _], _ => rfl) (by rfl) (by decide) fun T hT A outer s H G b E hr => ?_
    exact (ss_cons (s_set (i := 2) S.nd (e_callID 0 d__law_stairs rfl hT (hr.mono (by decide : 36 ≤ 36)) (a_cons (e_var 1) a_nil)))
  (ss_one (s_ret (e_if (t_cmp (op_eqD (hr.mono (by decide : 0 ≤ 36)).units) (opS_eq rfl) (e_callID 0 d__law_draw rfl hT (hr.mono (by decide : 33 ≤ 36)) (a_cons e_int a_nil)) e_int (nomark _)) (e_callID 0 d__law_mixed rfl hT (hr.mono (by decide : 34 ≤ 36)) (a_cons (e_var 2) a_nil)) (e_var 2)))))
theorem sc__law_lot_of : FnScope ["well", "many", "few", "found", "turn"] ["well", "many", "few"] (defScope (top 55)) := ⟨rfl, rfl, rfl, by decide +kernel, rfl, by decide +kernel, by decide +kernel⟩
theorem ok__law_lot_of {P : Program} {w : World} {K : PySem.W.Frag} {mg : Str → Option Value} {base : Heap} {T0 : List Addr} {f : Addr} {kV doc pm cd ct : Value} {an : Option Addr} (F : FunC K "_law_lot_of" (top 55) f kV doc pm cd ct an) (hmg : mg "_law_lot_of" = some (.ref f)) (bl : ∀ x ∈ (["len", "list", "range", "tuple"] : List Str), mg x = none)
    (d__law_draw : DefOk P w K mg base T0 33 "_law_draw" (top 41) ["well", "many"] true false mir__law_draw) : DefOk P w K mg base T0 34 "_law_lot_of" (top 55) ["well", "many", "few"] true false mir__law_lot_of := by
    have S := sc__law_lot_of
    refine defOk_mk (k := 33) F S [true, false, false, true, false] true false body__law_lot_of hmg (fun us hl => match us, hl with | [_, _, _], _ => rfl) (by rfl) (by decide) fun T hT A outer s H G b E hr => ?_
    exact (ss_cons (s_setO (i := 3) S.nd (o_listRg rfl (e_var 1) (bl "list" (by decide)) (bl "range" (by decide))))
  (ss_cons (s_for (passes_of rfl) rfl (i_range1 rfl (bl "range" (by decide)) (a_cons (e_sub (e_var 1) (e_var 2)) a_nil)) (gL_name (i := 4) (us := [4]) S.nd) (ss_one (s_drop (e_popAt (i := 3) (e_callID 0 d__law_draw rfl hT (hr.mono (by decide : 33 ≤ 33)) (a_cons (e_lenS (i := 3) rfl (bl "len" (by decide))) a_nil))))))
  (ss_one (s_ret (e_tupS (i := 3) rfl (bl "tuple" (by decide)))))))
theorem sc__law_lots : FnScope ["many", "found", "spot", "each"] ["many"] (defScope (top 54)) := ⟨rfl, rfl, rfl, by decide +kernel, rfl, by decide +kernel, by decide +kernel⟩
theorem ok__law_lots {P : Program} {w : World} {K : PySem.W.Frag} {mg : Str → Option Value} {base : Heap} {T0 : List Addr} {f : Addr} {kV doc pm cd ct : Value} {an : Option Addr} (F : FunC K "_law_lots" (top 54) f kV doc pm cd ct an) (hmg : mg "_law_lots" = some (.ref f)) (bl : ∀ x ∈ (["range"] : List Str), mg x = none)
     : DefOk P w K mg base T0 1 "_law_lots" (top 54) ["many"] false false mir__law_lots := by
    have S := sc__law_lots
    refine defOk_mk (k := 0) F S [false, false, false, false] false false body__law_lots hmg (fun us hl => match us, hl with | [_], _ => rfl) (by rfl) (by decide) fun T hT A outer s H G b E hr => ?_
    exact (ss_cons (s_set (i := 1) S.nd (e_lst (a_cons (e_tup a_nil) a_nil)))
  (ss_cons (s_for (passes_of rfl) rfl (i_range1 rfl (bl "range" (by decide)) (a_cons (e_var 0) a_nil)) (gL_name (i := 2) (us := [2]) S.nd) (ss_one (s_set (i := 1) S.nd (e_add rfl (e_var 1) (e_own (o_comp (ow := [("each", 3)]) [3] rfl rfl S.nd (i_seq rfl (e_var 1)) (blkOk_by (by rfl)) (muAll (by rfl)) (fun _ _ _ _ _ _ _ _ => (gL_name (i := 3) (us := [3]) S.nd)) (fun _ _ _ _ _ _ _ _ => ts_nil) (fun _ _ _ _ _ _ _ _ => (e_add rfl (e_var 3) (e_tup (a_cons (e_var 2) a_nil))))))))))
  (ss_one (s_ret (e_var 1)))))
theorem sc_is_tuple_of : FnScope ["value", "many"] ["value", "many"] (defScope (top 12)) := ⟨rfl, rfl, rfl, by decide +kernel, rfl, by decide +kernel, by decide +kernel⟩
theorem ok_is_tuple_of {P : Program} {w : World} {K : PySem.W.Frag} {mg : Str → Option Value} {base : Heap} {T0 : List Addr} {f : Addr} {kV doc pm cd ct : Value} {an : Option Addr} (F : FunC K "is_tuple_of" (top 12) f kV doc pm cd ct an) (hmg : mg "is_tuple_of" = some (.ref f)) (bl : ∀ x ∈ (["isinstance", "len", "tuple"] : List Str), mg x = none)
     : DefOk P w K mg base T0 1 "is_tuple_of" (top 12) ["value", "many"] false false mir_is_tuple_of := by
    have S := sc_is_tuple_of
    refine defOk_mk (k := 0) F S [false, false] false false body_is_tuple_of hmg (fun us hl => match us, hl with | [_, _], _ => rfl) (by rfl) (by decide) fun T hT A outer s H G b E hr => ?_
    exact (ss_one (s_ret (e_andV (e_isi rfl ok_tuple (e_var 0) (bl "isinstance" (by decide)) (bl "tuple" (by decide))) (e_one (e_eq rfl (hr.mono (by decide : 0 ≤ 0)).units (e_bi call_len_seq (caS_len rfl) (bl "len" (by decide)) (a_cons (e_var 0) a_nil)) (e_var 1))))))
theorem sc_is_whole : FnScope ["value"] ["value"] (defScope (top 10)) := ⟨rfl, rfl, rfl, by decide +kernel, rfl, by decide +kernel, by decide +kernel⟩
theorem ok_is_whole {P : Program} {w : World} {K : PySem.W.Frag} {mg : Str → Option Value} {base : Heap} {T0 : List Addr} {f : Addr} {kV doc pm cd ct : Value} {an : Option Addr} (F : FunC K "is_whole" (top 10) f kV doc pm cd ct an) (hmg : mg "is_whole" = some (.ref f)) (bl : ∀ x ∈ (["bool", "int", "isinstance"] : List Str), mg x = none)
     : DefOk P w K mg base T0 1 "is_whole" (top 10) ["value"] false false mir_is_whole := by
    have S := sc_is_whole
    refine defOk_mk (k := 0) F S [false] false false body_is_whole hmg (fun us hl => match us, hl with | [_], _ => rfl) (by rfl) (by decide) fun T hT A outer s H G b E hr => ?_
    exact (ss_one (s_ret (e_andV (e_isi rfl ok_int (e_var 0) (bl "isinstance" (by decide)) (bl "int" (by decide))) (e_one (e_notV rfl (e_isi rfl ok_bool (e_var 0) (bl "isinstance" (by decide)) (bl "bool" (by decide))))))))
theorem sc_is_fraction : FnScope ["value", "top", "bottom"] ["value"] (defScope (top 13)) := ⟨rfl, rfl, rfl, by decide +kernel, rfl, by decide +kernel, by decide +kernel⟩
theorem ok_is_fraction {P : Program} {w : World} {K : PySem.W.Frag} {mg : Str → Option Value} {base : Heap} {T0 : List Addr} {f : Addr} {kV doc pm cd ct : Value} {an : Option Addr} (F : FunC K "is_fraction" (top 13) f kV doc pm cd ct an) (hmg : mg "is_fraction" = some (.ref f)) (bl : ∀ x ∈ ([] : List Str), mg x = none)
    (d_is_tuple_of : DefOk P w K mg base T0 1 "is_tuple_of" (top 12) ["value", "many"] false false mir_is_tuple_of)
    (d_is_whole : DefOk P w K mg base T0 1 "is_whole" (top 10) ["value"] false false mir_is_whole)
    (hgcd : mg "gcd" = some (.builtin "math.gcd")) : DefOk P w K mg base T0 2 "is_fraction" (top 13) ["value"] false false mir_is_fraction := by
    have S := sc_is_fraction
    refine defOk_mk (k := 1) F S [false, false, false] false false body_is_fraction hmg (fun us hl => match us, hl with | [_], _ => rfl) (by rfl) (by decide) fun T hT A outer s H G b E hr => ?_
    exact (ss_cons (s_if (t_not (t_truth rfl (e_callD d_is_tuple_of rfl hT (hr.mono (by decide : 1 ≤ 1)) (a_cons (e_var 0) (a_cons e_int a_nil))))) (ss_one (s_ret e_bl)) ss_nil)
  (ss_cons (s_asg (e_var 0) (gL_tup rfl rfl (gsL_cons (gL_name (i := 1) (us := [1, 2]) S.nd) (gsL_cons (gL_name (i := 2) (us := [1, 2]) S.nd) gsL_nil))))
  (ss_one (s_ret (e_andV (e_callD d_is_whole rfl hT (hr.mono (by decide : 1 ≤ 1)) (a_cons (e_var 1) a_nil)) (e_andV (e_callD d_is_whole rfl hT (hr.mono (by decide : 1 ≤ 1)) (a_cons (e_var 2) a_nil)) (e_andV (e_gt (e_var 2) e_int) (e_one (e_eq rfl (hr.mono (by decide : 0 ≤ 1)).units (e_gcd hgcd (a_cons (e_var 1) (a_cons (e_var 2) a_nil))) e_int)))))))))
theorem sc_is_row : FnScope ["value", "many", "number"] ["value", "many"] (defScope (top 14)) := ⟨rfl, rfl, rfl, by decide +kernel, rfl, by decide +kernel, by decide +kernel⟩
theorem ok_is_row {P : Program} {w : World} {K : PySem.W.Frag} {mg : Str → Option Value} {base : Heap} {T0 : List Addr} {f : Addr} {kV doc pm cd ct : Value} {an : Option Addr} (F : FunC K "is_row" (top 14) f kV doc pm cd ct an) (hmg : mg "is_row" = some (.ref f)) (bl : ∀ x ∈ (["all"] : List Str), mg x = none)
    (d_is_tuple_of : DefOk P w K mg base T0 1 "is_tuple_of" (top 12) ["value", "many"] false false mir_is_tuple_of)
    (d_is_fraction : DefOk P w K mg base T0 2 "is_fraction" (top 13) ["value"] false false mir_is_fraction)
    {c0 P0 : Addr} (hcd : cd = .ref c0) (hP : P0 ∈ T0) (hC : PySem.W.CodeHd base c0 P0) (hbm : ∃ P1, base.BuiltinsAt mg P1) : DefOk P w K mg base T0 5 "is_row" (top 14) ["value", "many"] false false mir_is_row := by
    have S := sc_is_row
    refine defOk_mk (k := 4) F S [false, false, false] false false body_is_row hmg (fun us hl => match us, hl with | [_, _], _ => rfl) (by rfl) (by decide) fun T hT A outer s H G b E hr => ?_
    have gx0 : GxIn (cxOf (L2.CX P w) P w K mg base ["value", "many", "number"] "is_row" (defScope (top 14)) f cd A outer s H E) (bodyB K H G [false, false, false] false b T E) c0 P0 := ⟨hcd, hT _ hP, .inl hC⟩
    exact (ss_one (s_ret (e_andV (e_callD d_is_tuple_of rfl hT (hr.mono (by decide : 1 ≤ 4)) (a_cons (e_var 0) (a_cons (e_var 1) a_nil))) (e_one (e_allG (k := 3) (ow := [("number", 2)]) [2] rfl (hr.mono (by decide : 4 ≤ 4)) S.nd (i_seq rfl (e_var 0)) (blkOk_by (by rfl)) gx0 hbm (muAll (by rfl)) (fun _ _ _ _ _ _ _ _ _ _ _ rk1 => (gL_name (i := 2) (us := [2]) S.nd)) (fun _ _ _ _ _ _ _ _ _ _ _ rk1 gx1 => (e_callD d_is_fraction rfl (fun P h => List.mem_cons_of_mem _ (hT P h)) ((rk1.mono (by decide : 3 ≤ 3)).deeper _) (a_cons (e_var 2) a_nil))) (bl "all" (by decide)))))))
theorem sc_is_table : FnScope ["value", "first", "row"] ["value"] (defScope (top 26)) := ⟨rfl, rfl, rfl, by decide +kernel, rfl, by decide +kernel, by decide +kernel⟩
theorem ok_is_table {P : Program} {w : World} {K : PySem.W.Frag} {mg : Str → Option Value} {base : Heap} {T0 : List Addr} {f : Addr} {kV doc pm cd ct : Value} {an : Option Addr} (F : FunC K "is_table" (top 26) f kV doc pm cd ct an) (hmg : mg "is_table" = some (.ref f)) (bl : ∀ x ∈ (["all", "isinstance", "len", "tuple"] : List Str), mg x = none)
    (d_is_row : DefOk P w K mg base T0 5 "is_row" (top 14) ["value", "many"] false false mir_is_row)
    (g_MOST : ∃ t : Tok, mg "MOST" = some (.int 6 t))
    {c0 P0 : Addr} (hcd : cd = .ref c0) (hP : P0 ∈ T0) (hC : PySem.W.CodeHd base c0 P0) (hbm : ∃ P1, base.BuiltinsAt mg P1) : DefOk P w K mg base T0 8 "is_table" (top 26) ["value"] false false mir_is_table := by
    have S := sc_is_table
    obtain ⟨t_MOST, g_MOST⟩ := g_MOST
    refine defOk_mk (k := 7) F S [false, false, false] false false body_is_table hmg (fun us hl => match us, hl with | [_], _ => rfl) (by rfl) (by decide) fun T hT A outer s H G b E hr => ?_
    have gx0 : GxIn (cxOf (L2.CX P w) P w K mg base ["value", "first", "row"] "is_table" (defScope (top 26)) f cd A outer s H E) (bodyB K H G [false, false, false] false b T E) c0 P0 := ⟨hcd, hT _ hP, .inl hC⟩
    exact (ss_cons (s_if ((t_or (t_not (t_truth rfl (e_isi rfl ok_tuple (e_var 0) (bl "isinstance" (by decide)) (bl "tuple" (by decide))))) (t_or1 (t_not (t_chain op_le op_le e_int (e_bi call_len_seq (caS_len rfl) (bl "len" (by decide)) (a_cons (e_var 0) a_nil)) (e_glob (i := 6) g_MOST)))))).pt (ss_one (s_ret e_bl)) ss_nil)
  (ss_cons (s_set (i := 1) S.nd (e_ix rfl (e_var 0) e_int))
  (ss_cons (s_if ((t_or (t_not (t_truth rfl (e_isi rfl ok_tuple (e_var 1) (bl "isinstance" (by decide)) (bl "tuple" (by decide))))) (t_or1 (t_not (t_chain op_le op_le e_int (e_bi call_len_seq (caS_len rfl) (bl "len" (by decide)) (a_cons (e_var 1) a_nil)) (e_glob (i := 6) g_MOST)))))).pt (ss_one (s_ret e_bl)) ss_nil)
  (ss_one (s_ret (e_allG (k := 6) (ow := [("row", 2)]) [2] rfl (hr.mono (by decide : 7 ≤ 7)) S.nd (i_seq rfl (e_var 0)) (blkOk_by (by rfl)) gx0 hbm (muAll (by rfl)) (fun _ _ _ _ _ _ _ _ _ _ _ rk2 => (gL_name (i := 2) (us := [2]) S.nd)) (fun _ _ _ _ _ _ _ _ _ _ _ rk2 gx2 => (e_callD d_is_row rfl (fun P h => List.mem_cons_of_mem _ (hT P h)) ((rk2.mono (by decide : 6 ≤ 6)).deeper _) (a_cons (e_var 2) (a_cons (e_bi call_len_seq (caS_len rfl) (bl "len" (by decide)) (a_cons (e_var 1) a_nil)) a_nil)))) (bl "all" (by decide))))))))
theorem sc_is_square : FnScope ["value"] ["value"] (defScope (top 34)) := ⟨rfl, rfl, rfl, by decide +kernel, rfl, by decide +kernel, by decide +kernel⟩
theorem ok_is_square {P : Program} {w : World} {K : PySem.W.Frag} {mg : Str → Option Value} {base : Heap} {T0 : List Addr} {f : Addr} {kV doc pm cd ct : Value} {an : Option Addr} (F : FunC K "is_square" (top 34) f kV doc pm cd ct an) (hmg : mg "is_square" = some (.ref f)) (bl : ∀ x ∈ (["len"] : List Str), mg x = none)
    (d_is_table : DefOk P w K mg base T0 8 "is_table" (top 26) ["value"] false false mir_is_table) : DefOk P w K mg base T0 9 "is_square" (top 34) ["value"] false false mir_is_square := by
    have S := sc_is_square
    refine defOk_mk (k := 8) F S [false] false false body_is_square hmg (fun us hl => match us, hl with | [_], _ => rfl) (by rfl) (by decide) fun T hT A outer s H G b E hr => ?_
    exact (ss_one (s_ret (e_andV (e_callD d_is_table rfl hT (hr.mono (by decide : 8 ≤ 8)) (a_cons (e_var 0) a_nil)) (e_one (e_eq rfl (hr.mono (by decide : 0 ≤ 8)).units (e_bi call_len_seq (caS_len rfl) (bl "len" (by decide)) (a_cons (e_var 0) a_nil)) (e_bi call_len_seq (caS_len rfl) (bl "len" (by decide)) (a_cons (e_ix rfl (e_var 0) e_int) a_nil)))))))
theorem sc_check_square : FnScope ["square"] ["square"] (defScope (top 35)) := ⟨rfl, rfl, rfl, by decide +kernel, rfl, by decide +kernel, by decide +kernel⟩
theorem ok_check_square {P : Program} {w : World} {K : PySem.W.Frag} {mg : Str → Option Value} {base : Heap} {T0 : List Addr} {f : Addr} {kV doc pm cd ct : Value} {an : Option Addr} (F : FunC K "check_square" (top 35) f kV doc pm cd ct an) (hmg : mg "check_square" = some (.ref f)) (bl : ∀ x ∈ ([] : List Str), mg x = none)
    (d_is_square : DefOk P w K mg base T0 9 "is_square" (top 34) ["value"] false false mir_is_square) : DefOk P w K mg base T0 10 "check_square" (top 35) ["square"] false false mir_check_square := by
    have S := sc_check_square
    refine defOk_mk (k := 9) F S [false] false false body_check_square hmg (fun us hl => match us, hl with | [_], _ => rfl) (by rfl) (by decide) fun T hT A outer s H G b E hr => ?_
    exact (ss_one (s_if (t_not (t_truth rfl (e_callD d_is_square rfl hT (hr.mono (by decide : 9 ≤ 9)) (a_cons (e_var 0) a_nil)))) (ss_one s_bad) ss_nil))
theorem sc__first_row : FnScope ["rows", "top", "place", "index"] ["rows", "top", "place"] (defScope (top 18)) := ⟨rfl, rfl, rfl, by decide +kernel, rfl, by decide +kernel, by decide +kernel⟩
theorem ok__first_row {P : Program} {w : World} {K : PySem.W.Frag} {mg : Str → Option Value} {base : Heap} {T0 : List Addr} {f : Addr} {kV doc pm cd ct : Value} {an : Option Addr} (F : FunC K "_first_row" (top 18) f kV doc pm cd ct an) (hmg : mg "_first_row" = some (.ref f)) (bl : ∀ x ∈ (["len", "range"] : List Str), mg x = none)
     : DefOk P w K mg base T0 1 "_first_row" (top 18) ["rows", "top", "place"] false false mir__first_row := by
    have S := sc__first_row
    refine defOk_mk (k := 0) F S [false, false, false, false] false false body__first_row hmg (fun us hl => match us, hl with | [_, _, _], _ => rfl) (by rfl) (by decide) fun T hT A outer s H G b E hr => ?_
    exact (ss_cons (s_for (passes_of rfl) rfl (i_range2 rfl (bl "range" (by decide)) (a_cons (e_var 1) (a_cons (e_bi call_len_seq (caS_len rfl) (bl "len" (by decide)) (a_cons (e_var 0) a_nil)) a_nil))) (gL_name (i := 3) (us := [3]) S.nd) (ss_one (s_if (t_cmp (op_neE (hr.mono (by decide : 0 ≤ 0)).units) (opS_neE rfl) (e_ix rfl (e_ix rfl (e_var 0) (e_var 3)) (e_var 2)) e_int (nomark _)) (ss_one (s_ret (e_var 3))) ss_nil)))
  (ss_one (s_ret e_non)))
theorem sc__less_multiple : FnScope ["row", "chosen", "place", "lead", "pivot", "factor", "number", "mate"] ["row", "chosen", "place", "lead"] (defScope (top 20)) := ⟨rfl, rfl, rfl, by decide +kernel, rfl, by decide +kernel, by decide +kernel⟩
theorem ok__less_multiple {P : Program} {w : World} {K : PySem.W.Frag} {mg : Str → Option Value} {base : Heap} {T0 : List Addr} {f : Addr} {kV doc pm cd ct : Value} {an : Option Addr} (F : FunC K "_less_multiple" (top 20) f kV doc pm cd ct an) (hmg : mg "_less_multiple" = some (.ref f)) (bl : ∀ x ∈ (["zip"] : List Str), mg x = none)
    (hS : Sees P base) : DefOk P w K mg base T0 33 "_less_multiple" (top 20) ["row", "chosen", "place", "lead"] false true mir__less_multiple := by
    have S := sc__less_multiple
    refine defOk_mk (k := 32) F S [false, false, false, false, false, false, false, false] false true body__less_multiple hmg (fun us hl => match us, hl with | [_, _, _, _], _ => rfl) (by rfl) (by decide) fun T hT A outer s H G b E hr => ?_
    have hPy : PyR (cxOf (L2.CX P w) P w K mg base ["row", "chosen", "place", "lead", "pivot", "factor", "number", "mate"] "_less_multiple" (defScope (top 20)) f cd A outer s H E) := pyR_of hS hr (by decide) rfl rfl
    exact (ss_cons (s_parG (i := 4) (j := 5) rfl S.nd (aO_val (e_ix rfl (e_var 1) (e_var 2)) (aO_val (e_ix rfl (e_var 0) (e_var 2)) aO_nil)) rfl)
  (ss_one (s_retO (o_comp (ow := [("number", 6), ("mate", 7)]) [6, 7] rfl rfl S.nd (i_zip rfl (a_cons (e_var 0) (a_cons (e_var 1) a_nil)) (bl "zip" (by decide))) (blkOk_by (by rfl)) (muAll (by rfl)) (fun _ _ _ _ _ _ _ _ => (gL_tup rfl rfl (gsL_cons (gL_name (i := 6) (us := [6, 7]) S.nd) (gsL_cons (gL_name (i := 7) (us := [6, 7]) S.nd) gsL_nil)))) (fun _ _ _ _ _ _ _ _ => ts_nil) (fun _ _ _ _ _ _ _ _ => (e_divP hPy.blk (e_sub (e_mul rfl (e_var 4) (e_var 6)) (e_mul rfl (e_var 5) (e_var 7))) (e_var 3)))))))
theorem sc__cleared : FnScope ["rows", "top", "place", "lead", "cleared", "index", "row"] ["rows", "top", "place", "lead"] (defScope (top 21)) := ⟨rfl, rfl, rfl, by decide +kernel, rfl, by decide +kernel, by decide +kernel⟩
theorem ok__cleared {P : Program} {w : World} {K : PySem.W.Frag} {mg : Str → Option Value} {base : Heap} {T0 : List Addr} {f : Addr} {kV doc pm cd ct : Value} {an : Option Addr} (F : FunC K "_cleared" (top 21) f kV doc pm cd ct an) (hmg : mg "_cleared" = some (.ref f)) (bl : ∀ x ∈ (["enumerate"] : List Str), mg x = none)
    (d__less_multiple : DefOk P w K mg base T0 33 "_less_multiple" (top 20) ["row", "chosen", "place", "lead"] false true mir__less_multiple) : DefOk P w K mg base T0 34 "_cleared" (top 21) ["rows", "top", "place", "lead"] false true mir__cleared := by
    have S := sc__cleared
    refine defOk_mk (k := 33) F S [false, false, false, false, true, false, false] false true body__cleared hmg (fun us hl => match us, hl with | [_, _, _, _], _ => rfl) (by rfl) (by decide) fun T hT A outer s H G b E hr => ?_
    exact (ss_cons (s_setO (i := 4) S.nd (o_lst a_nil))
  (ss_cons (s_for (passes_of rfl) rfl (i_enum rfl (a_cons (e_var 0) a_nil) (bl "enumerate" (by decide))) (gL_tup rfl rfl (gsL_cons (gL_name (i := 5) (us := [5, 6]) S.nd) (gsL_cons (gL_name (i := 6) (us := [5, 6]) S.nd) gsL_nil))) (ss_one (s_if (t_cmp (op_eqD (hr.mono (by decide : 0 ≤ 33)).units) (opS_eq rfl) (e_var 5) (e_var 1) (nomark _)) (ss_one (s_app (i := 4) rfl (e_var 6))) (ss_one (s_app (i := 4) rfl (e_own (o_callD d__less_multiple rfl hT (hr.mono (by decide : 33 ≤ 33)) (a_cons (e_var 6) (a_cons (e_ix rfl (e_var 0) (e_var 1)) (a_cons (e_var 2) (a_cons (e_var 3) a_nil)))))))))))
  (ss_one (s_retO (o_frz (i := 4))))))
theorem sc__moved_up : FnScope ["rows", "index", "top", "moved", "number"] ["rows", "index", "top"] (defScope (top 19)) := ⟨rfl, rfl, rfl, by decide +kernel, rfl, by decide +kernel, by decide +kernel⟩
theorem ok__moved_up {P : Program} {w : World} {K : PySem.W.Frag} {mg : Str → Option Value} {base : Heap} {T0 : List Addr} {f : Addr} {kV doc pm cd ct : Value} {an : Option Addr} (F : FunC K "_moved_up" (top 19) f kV doc pm cd ct an) (hmg : mg "_moved_up" = some (.ref f)) (bl : ∀ x ∈ (["list"] : List Str), mg x = none)
     : DefOk P w K mg base T0 1 "_moved_up" (top 19) ["rows", "index", "top"] false true mir__moved_up := by
    have S := sc__moved_up
    refine defOk_mk (k := 0) F S [false, false, false, true, false] false true body__moved_up hmg (fun us hl => match us, hl with | [_, _, _], _ => rfl) (by rfl) (by decide) fun T hT A outer s H G b E hr => ?_
    exact (ss_cons (s_setO (i := 3) S.nd (o_listOf rfl (e_var 0) (bl "list" (by decide))))
  (ss_cons (s_asg (e_ix rfl (e_var 0) (e_var 1)) (gL_put (i := 3) (us := []) (e_var 2)))
  (ss_cons (s_if (t_cmp (op_neE (hr.mono (by decide : 0 ≤ 0)).units) (opS_neE rfl) (e_var 1) (e_var 2) (nomark _)) (ss_one (s_asg (e_own (o_comp (ow := [("number", 4)]) [4] rfl rfl S.nd (i_seq rfl (e_ix rfl (e_var 0) (e_var 2))) (blkOk_by (by rfl)) (muAll (by rfl)) (fun _ _ _ _ _ _ _ _ => (gL_name (i := 4) (us := [4]) S.nd)) (fun _ _ _ _ _ _ _ _ => ts_nil) (fun _ _ _ _ _ _ _ _ => (e_neg (e_var 4))))) (gL_put (i := 3) (us := []) (e_var 1)))) ss_nil)
  (ss_one (s_retO (o_frz (i := 3)))))))
theorem sc_swept : FnScope ["rows", "width", "places", "lead", "place", "top", "index"] ["rows", "width"] (defScope (top 22)) := ⟨rfl, rfl, rfl, by decide +kernel, rfl, by decide +kernel, by decide +kernel⟩
theorem ok_swept {P : Program} {w : World} {K : PySem.W.Frag} {mg : Str → Option Value} {base : Heap} {T0 : List Addr} {f : Addr} {kV doc pm cd ct : Value} {an : Option Addr} (F : FunC K "swept" (top 22) f kV doc pm cd ct an) (hmg : mg "swept" = some (.ref f)) (bl : ∀ x ∈ (["len", "range"] : List Str), mg x = none)
    (d__first_row : DefOk P w K mg base T0 1 "_first_row" (top 18) ["rows", "top", "place"] false false mir__first_row)
    (d__cleared : DefOk P w K mg base T0 34 "_cleared" (top 21) ["rows", "top", "place", "lead"] false true mir__cleared)
    (d__moved_up : DefOk P w K mg base T0 1 "_moved_up" (top 19) ["rows", "index", "top"] false true mir__moved_up) : DefOk P w K mg base T0 35 "swept" (top 22) ["rows", "width"] false false mir_swept := by
    have S := sc_swept
    refine defOk_mk (k := 34) F S [false, false, true, false, false, false, false] false false body_swept hmg (fun us hl => match us, hl with | [_, _], _ => rfl) (by rfl) (by decide) fun T hT A outer s H G b E hr => ?_
    exact (ss_cons (s_setO (i := 2) S.nd (o_lst a_nil))
  (ss_cons (s_set (i := 3) S.nd e_int)
  (ss_cons (s_for (passes_of rfl) rfl (i_range1 rfl (bl "range" (by decide)) (a_cons (e_var 1) a_nil)) (gL_name (i := 4) (us := [4]) S.nd) (ss_cons (s_set (i := 5) S.nd (e_lenS (i := 2) rfl (bl "len" (by decide))))
  (ss_cons (s_set (i := 6) S.nd (e_callD d__first_row rfl hT (hr.mono (by decide : 1 ≤ 34)) (a_cons (e_var 0) (a_cons (e_var 5) (a_cons (e_var 4) a_nil)))))
  (ss_one (s_if (t_cmp op_notN opS_isnt (e_var 6) e_non (nomark _)) (ss_cons (s_set (i := 0) S.nd (e_own (o_callD d__cleared rfl hT (hr.mono (by decide : 34 ≤ 34)) (a_cons (e_own (o_callD d__moved_up rfl hT (hr.mono (by decide : 1 ≤ 34)) (a_cons (e_var 0) (a_cons (e_var 6) (a_cons (e_var 5) a_nil))))) (a_cons (e_var 5) (a_cons (e_var 4) (a_cons (e_var 3) a_nil)))))))
  (ss_cons (s_set (i := 3) S.nd (e_ix rfl (e_ix rfl (e_var 0) (e_var 5)) (e_var 4)))
  (ss_one (s_app (i := 2) rfl (e_var 4))))) ss_nil)))))
  (ss_one (s_ret (e_tup (a_cons (e_var 0) (a_cons (e_frz (i := 2)) (a_cons (e_var 3) a_nil)))))))))
theorem sc_whole_rows : FnScope ["rows", "wholes", "scale", "row", "shared", "number", "top", "bottom"] ["rows"] (defScope (top 17)) := ⟨rfl, rfl, rfl, by decide +kernel, rfl, by decide +kernel, by decide +kernel⟩
theorem ok_whole_rows {P : Program} {w : World} {K : PySem.W.Frag} {mg : Str → Option Value} {base : Heap} {T0 : List Addr} {f : Addr} {kV doc pm cd ct : Value} {an : Option Addr} (F : FunC K "whole_rows" (top 17) f kV doc pm cd ct an) (hmg : mg "whole_rows" = some (.ref f)) (bl : ∀ x ∈ ([] : List Str), mg x = none)
    (hlcm : mg "lcm" = some (.builtin "math.lcm"))
    (hS : Sees P base) : DefOk P w K mg base T0 33 "whole_rows" (top 17) ["rows"] false false mir_whole_rows := by
    have S := sc_whole_rows
    refine defOk_mk (k := 32) F S [false, true, false, false, false, false, false, false] false false body_whole_rows hmg (fun us hl => match us, hl with | [_], _ => rfl) (by rfl) (by decide) fun T hT A outer s H G b E hr => ?_
    have hPy : PyR (cxOf (L2.CX P w) P w K mg base ["rows", "wholes", "scale", "row", "shared", "number", "top", "bottom"] "whole_rows" (defScope (top 17)) f cd A outer s H E) := pyR_of hS hr (by decide) rfl rfl
    exact (ss_cons (s_setO (i := 1) S.nd (o_lst a_nil))
  (ss_cons (s_set (i := 2) S.nd e_int)
  (ss_cons (s_for (passes_of rfl) rfl (i_seq rfl (e_var 0)) (gL_name (i := 3) (us := [3]) S.nd) (ss_cons (s_set (i := 4) S.nd e_int)
  (ss_cons (s_for (passes_of rfl) rfl (i_seq rfl (e_var 3)) (gL_name (i := 5) (us := [5]) S.nd) (ss_one (s_set (i := 4) S.nd (e_lcmP hPy hlcm (a_cons (e_var 4) (a_cons (e_ix rfl (e_var 5) e_int) a_nil))))))
  (ss_cons (s_app (i := 1) rfl (e_own (o_comp (ow := [("top", 6), ("bottom", 7)]) [6, 7] rfl rfl S.nd (i_seq rfl (e_var 3)) (blkOk_by (by rfl)) (muAll (by rfl)) (fun _ _ _ _ _ _ _ _ => (gL_tup rfl rfl (gsL_cons (gL_name (i := 6) (us := [6, 7]) S.nd) (gsL_cons (gL_name (i := 7) (us := [6, 7]) S.nd) gsL_nil)))) (fun _ _ _ _ _ _ _ _ => ts_nil) (fun _ _ _ _ _ _ _ _ => (e_mul rfl (e_var 6) (e_divP hPy.blk (e_var 4) (e_var 7)))))))
  (ss_one (s_set (i := 2) S.nd (e_mul rfl (e_var 2) (e_var 4))))))))
  (ss_one (s_ret (e_tup (a_cons (e_frz (i := 1)) (a_cons (e_var 2) a_nil))))))))
theorem sc_fraction : FnScope ["top", "bottom", "shared"] ["top", "bottom"] (defScope (top 15)) := ⟨rfl, rfl, rfl, by decide +kernel, rfl, by decide +kernel, by decide +kernel⟩
theorem ok_fraction {P : Program} {w : World} {K : PySem.W.Frag} {mg : Str → Option Value} {base : Heap} {T0 : List Addr} {f : Addr} {kV doc pm cd ct : Value} {an : Option Addr} (F : FunC K "fraction" (top 15) f kV doc pm cd ct an) (hmg : mg "fraction" = some (.ref f)) (bl : ∀ x ∈ ([] : List Str), mg x = none)
    (hgcd : mg "gcd" = some (.builtin "math.gcd"))
    (hS : Sees P base) : DefOk P w K mg base T0 33 "fraction" (top 15) ["top", "bottom"] false false mir_fraction := by
    have S := sc_fraction
    refine defOk_mk (k := 32) F S [false, false, false] false false body_fraction hmg (fun us hl => match us, hl with | [_, _], _ => rfl) (by rfl) (by decide) fun T hT A outer s H G b E hr => ?_
    have hPy : PyR (cxOf (L2.CX P w) P w K mg base ["top", "bottom", "shared"] "fraction" (defScope (top 15)) f cd A outer s H E) := pyR_of hS hr (by decide) rfl rfl
    exact (ss_cons (s_set (i := 2) S.nd (e_gcd hgcd (a_cons (e_var 0) (a_cons (e_var 1) a_nil))))
  (ss_cons (s_if (t_cmp op_lt opS_cmp (e_var 1) e_int (nomark _)) (ss_one (s_set (i := 2) S.nd (e_neg (e_var 2)))) ss_nil)
  (ss_one (s_ret (e_tup (a_cons (e_divP hPy (e_var 0) (e_var 2)) (a_cons (e_divP hPy (e_var 1) (e_var 2)) a_nil)))))))
theorem sc_reduced : FnScope ["rows", "width", "wholes", "places", "lead", "kept", "number", "row"] ["rows", "width"] (defScope (top 23)) := ⟨rfl, rfl, rfl, by decide +kernel, rfl, by decide +kernel, by decide +kernel⟩
theorem ok_reduced {P : Program} {w : World} {K : PySem.W.Frag} {mg : Str → Option Value} {base : Heap} {T0 : List Addr} {f : Addr} {kV doc pm cd ct : Value} {an : Option Addr} (F : FunC K "reduced" (top 23) f kV doc pm cd ct an) (hmg : mg "reduced" = some (.ref f)) (bl : ∀ x ∈ (["len", "tuple"] : List Str), mg x = none)
    (d_swept : DefOk P w K mg base T0 35 "swept" (top 22) ["rows", "width"] false false mir_swept)
    (d_whole_rows : DefOk P w K mg base T0 33 "whole_rows" (top 17) ["rows"] false false mir_whole_rows)
    (d_fraction : DefOk P w K mg base T0 33 "fraction" (top 15) ["top", "bottom"] false false mir_fraction)
    {c0 P0 : Addr} (hcd : cd = .ref c0) (hP : P0 ∈ T0) (hC : PySem.W.CodeHd base c0 P0) (hbm : ∃ P1, base.BuiltinsAt mg P1) : DefOk P w K mg base T0 40 "reduced" (top 23) ["rows", "width"] false false mir_reduced := by
    have S := sc_reduced
    refine defOk_mk (k := 39) F S [false, false, false, false, false, false, false, false] false false body_reduced hmg (fun us hl => match us, hl with | [_, _], _ => rfl) (by rfl) (by decide) fun T hT A outer s H G b E hr => ?_
    have gx0 : GxIn (cxOf (L2.CX P w) P w K mg base ["rows", "width", "wholes", "places", "lead", "kept", "number", "row"] "reduced" (defScope (top 23)) f cd A outer s H E) (bodyB K H G [false, false, false, false, false, false, false, false] false b T E) c0 P0 := ⟨hcd, hT _ hP, .inl hC⟩
    exact (ss_cons (s_asg (e_callD d_swept rfl hT (hr.mono (by decide : 35 ≤ 39)) (a_cons (e_ix rfl (e_callD d_whole_rows rfl hT (hr.mono (by decide : 33 ≤ 39)) (a_cons (e_var 0) a_nil)) e_int) (a_cons (e_var 1) a_nil))) (gL_tup rfl rfl (gsL_cons (gL_name (i := 2) (us := [2, 3, 4]) S.nd) (gsL_cons (gL_name (i := 3) (us := [2, 3, 4]) S.nd) (gsL_cons (gL_name (i := 4) (us := [2, 3, 4]) S.nd) gsL_nil)))))
  (ss_cons (s_set (i := 5) S.nd (e_sl rfl (e_var 2) p_none (p_some (e_bi call_len_seq (caS_len rfl) (bl "len" (by decide)) (a_cons (e_var 3) a_nil)))))
  (ss_one (s_ret (e_tup (a_cons (e_tupG (k := 37) (ow := [("row", 7)]) [7] rfl (hr.mono (by decide : 39 ≤ 39)) S.nd (i_seq rfl (e_var 5)) (blkOk_by (by rfl)) gx0 hbm (muAll (by rfl)) (fun _ _ _ _ _ _ _ _ _ _ _ rk3 => (gL_name (i := 7) (us := [7]) S.nd)) (fun _ _ _ _ _ _ _ _ _ _ _ rk3 gx3 => (e_tupG (k := 34) (ow := [("number", 6)]) [6] rfl ((rk3.mono (by decide : 37 ≤ 37)).deeper _) S.nd (i_seq rfl (e_var 7)) (blkOk_by (by rfl)) gx3 hbm (muAll (by rfl)) (fun _ _ _ _ _ _ _ _ _ _ _ rk4 => (gL_name (i := 6) (us := [6]) S.nd)) (fun _ _ _ _ _ _ _ _ _ _ _ rk4 gx4 => (e_callD d_fraction rfl (fun P h => List.mem_cons_of_mem _ ((fun P h => List.mem_cons_of_mem _ (hT P h)) P h)) ((rk4.mono (by decide : 34 ≤ 34)).deeper _) (a_cons (e_var 6) (a_cons (e_var 4) a_nil)))) (bl "tuple" (by decide)))) (bl "tuple" (by decide))) (a_cons (e_var 3) a_nil)))))))
theorem sc__ends_swept : FnScope ["square", "ends", "many", "joined", "row", "end", "rows", "places"] ["square", "ends"] (defScope (top 37)) := ⟨rfl, rfl, rfl, by decide +kernel, rfl, by decide +kernel, by decide +kernel⟩
theorem ok__ends_swept {P : Program} {w : World} {K : PySem.W.Frag} {mg : Str → Option Value} {base : Heap} {T0 : List Addr} {f : Addr} {kV doc pm cd ct : Value} {an : Option Addr} (F : FunC K "_ends_swept" (top 37) f kV doc pm cd ct an) (hmg : mg "_ends_swept" = some (.ref f)) (bl : ∀ x ∈ (["len", "tuple", "zip"] : List Str), mg x = none)
    (d_reduced : DefOk P w K mg base T0 40 "reduced" (top 23) ["rows", "width"] false false mir_reduced)
    {c0 P0 : Addr} (hcd : cd = .ref c0) (hP : P0 ∈ T0) (hC : PySem.W.CodeHd base c0 P0) (hbm : ∃ P1, base.BuiltinsAt mg P1) : DefOk P w K mg base T0 41 "_ends_swept" (top 37) ["square", "ends"] false false mir__ends_swept := by
    have S := sc__ends_swept
    refine defOk_mk (k := 40) F S [false, false, false, false, false, false, false, false] false false body__ends_swept hmg (fun us hl => match us, hl with | [_, _], _ => rfl) (by rfl) (by decide) fun T hT A outer s H G b E hr => ?_
    have gx0 : GxIn (cxOf (L2.CX P w) P w K mg base ["square", "ends", "many", "joined", "row", "end", "rows", "places"] "_ends_swept" (defScope (top 37)) f cd A outer s H E) (bodyB K H G [false, false, false, false, false, false, false, false] false b T E) c0 P0 := ⟨hcd, hT _ hP, .inl hC⟩
    exact (ss_cons (s_set (i := 2) S.nd (e_bi call_len_seq (caS_len rfl) (bl "len" (by decide)) (a_cons (e_var 0) a_nil)))
  (ss_cons (s_setC (i := 3) (ow := [("row", 4), ("end", 5)]) [4, 5] rfl rfl S.nd (i_zip rfl (a_cons (e_var 0) (a_cons (e_var 1) a_nil)) (bl "zip" (by decide))) (blkOk_by (by rfl)) (muAll (by rfl)) (fun _ _ _ _ _ _ _ _ => (gL_tup rfl rfl (gsL_cons (gL_name (i := 4) (us := [4, 5]) S.nd) (gsL_cons (gL_name (i := 5) (us := [4, 5]) S.nd) gsL_nil)))) (fun _ _ _ _ _ _ _ _ => ts_nil) (fun _ _ _ _ _ _ _ _ => (e_add rfl (e_var 4) (e_var 5))) (by rfl))
  (ss_cons (s_asg (e_callD d_reduced rfl hT (hr.mono (by decide : 40 ≤ 40)) (a_cons (e_var 3) (a_cons (e_var 2) a_nil))) (gL_tup rfl rfl (gsL_cons (gL_name (i := 6) (us := [6, 7]) S.nd) (gsL_cons (gL_name (i := 7) (us := [6, 7]) S.nd) gsL_nil))))
  (ss_cons (s_if (t_cmp op_lt opS_cmp (e_bi call_len_seq (caS_len rfl) (bl "len" (by decide)) (a_cons (e_var 7) a_nil)) (e_var 2) (nomark _)) (ss_one s_bad) ss_nil)
  (ss_one (s_ret (e_tupG (k := 0) (ow := [("row", 4)]) [4] rfl (hr.mono (by decide : 2 ≤ 40)) S.nd (i_seq rfl (e_var 6)) (blkOk_by (by rfl)) gx0 hbm (muAll (by rfl)) (fun _ _ _ _ _ _ _ _ _ _ _ rk5 => (gL_name (i := 4) (us := [4]) S.nd)) (fun _ _ _ _ _ _ _ _ _ _ _ rk5 gx5 => (e_sl rfl (e_var 4) (p_some (e_var 2)) p_none)) (bl "tuple" (by decide)))))))))
theorem sc_unit_row : FnScope ["many", "place", "k"] ["many", "place"] (defScope (top 16)) := ⟨rfl, rfl, rfl, by decide +kernel, rfl, by decide +kernel, by decide +kernel⟩
theorem ok_unit_row {P : Program} {w : World} {K : PySem.W.Frag} {mg : Str → Option Value} {base : Heap} {T0 : List Addr} {f : Addr} {kV doc pm cd ct : Value} {an : Option Addr} (F : FunC K "unit_row" (top 16) f kV doc pm cd ct an) (hmg : mg "unit_row" = some (.ref f)) (bl : ∀ x ∈ (["range", "tuple"] : List Str), mg x = none)
    (g_NIL : TupG K mg "NIL" [0, 1])
    (g_ONE : TupG K mg "ONE" [1, 1])
    {c0 P0 : Addr} (hcd : cd = .ref c0) (hP : P0 ∈ T0) (hC : PySem.W.CodeHd base c0 P0) (hbm : ∃ P1, base.BuiltinsAt mg P1) : DefOk P w K mg base T0 4 "unit_row" (top 16) ["many", "place"] false false mir_unit_row := by
    have S := sc_unit_row
    refine defOk_mk (k := 3) F S [false, false, false] false false body_unit_row hmg (fun us hl => match us, hl with | [_, _], _ => rfl) (by rfl) (by decide) fun T hT A outer s H G b E hr => ?_
    have gx0 : GxIn (cxOf (L2.CX P w) P w K mg base ["many", "place", "k"] "unit_row" (defScope (top 16)) f cd A outer s H E) (bodyB K H G [false, false, false] false b T E) c0 P0 := ⟨hcd, hT _ hP, .inl hC⟩
    exact (ss_one (s_ret (e_tupG (k := 1) (ow := [("k", 2)]) [2] rfl (hr.mono (by decide : 3 ≤ 3)) S.nd (i_range1 rfl (bl "range" (by decide)) (a_cons (e_var 0) a_nil)) (blkOk_by (by rfl)) gx0 hbm (muAll (by rfl)) (fun _ _ _ _ _ _ _ _ _ _ _ rk6 => (gL_name (i := 2) (us := [2]) S.nd)) (fun _ _ _ _ _ _ _ _ _ _ _ rk6 gx6 => (e_if (t_cmp (op_eqD ((rk6.mono (by decide : 1 ≤ 1)).deeper _).units) (opS_eq rfl) (e_var 2) (e_var 1) (nomark _)) (e_globT rfl g_ONE) (e_globT rfl g_NIL))) (bl "tuple" (by decide)))))
theorem sc_inverse : FnScope ["square", "many", "k"] ["square"] (defScope (top 38)) := ⟨rfl, rfl, rfl, by decide +kernel, rfl, by decide +kernel, by decide +kernel⟩
theorem ok_inverse {P : Program} {w : World} {K : PySem.W.Frag} {mg : Str → Option Value} {base : Heap} {T0 : List Addr} {f : Addr} {kV doc pm cd ct : Value} {an : Option Addr} (F : FunC K "inverse" (top 38) f kV doc pm cd ct an) (hmg : mg "inverse" = some (.ref f)) (bl : ∀ x ∈ (["len", "range"] : List Str), mg x = none)
    (d_check_square : DefOk P w K mg base T0 10 "check_square" (top 35) ["square"] false false mir_check_square)
    (d__ends_swept : DefOk P w K mg base T0 41 "_ends_swept" (top 37) ["square", "ends"] false false mir__ends_swept)
    (d_unit_row : DefOk P w K mg base T0 4 "unit_row" (top 16) ["many", "place"] false false mir_unit_row) : DefOk P w K mg base T0 42 "inverse" (top 38) ["square"] false false mir_inverse := by
    have S := sc_inverse
    refine defOk_mk (k := 41) F S [false, false, false] false false body_inverse hmg (fun us hl => match us, hl with | [_], _ => rfl) (by rfl) (by decide) fun T hT A outer s H G b E hr => ?_
    exact (ss_cons (s_drop (e_callD d_check_square rfl hT (hr.mono (by decide : 10 ≤ 41)) (a_cons (e_var 0) a_nil)))
  (ss_cons (s_set (i := 1) S.nd (e_bi call_len_seq (caS_len rfl) (bl "len" (by decide)) (a_cons (e_var 0) a_nil)))
  (ss_one (s_ret (e_callD d__ends_swept rfl hT (hr.mono (by decide : 41 ≤ 41)) (a_cons (e_var 0) (a_cons (e_own (o_comp (ow := [("k", 2)]) [2] rfl rfl S.nd (i_range1 rfl (bl "range" (by decide)) (a_cons (e_var 1) a_nil)) (blkOk_by (by rfl)) (muAll (by rfl)) (fun _ _ _ _ _ _ _ _ => (gL_name (i := 2) (us := [2]) S.nd)) (fun _ _ _ _ _ _ _ _ => ts_nil) (fun _ _ _ _ _ _ _ _ => (e_callD d_unit_row rfl hT (hr.mono (by decide : 4 ≤ 41)) (a_cons (e_var 1) (a_cons (e_var 2) a_nil)))))) a_nil)))))))
theorem sc__law_minor : FnScope ["lines", "found", "sign", "spot", "each"] ["lines"] (defScope (top 60)) := ⟨rfl, rfl, rfl, by decide +kernel, rfl, by decide +kernel, by decide +kernel⟩
theorem ok__law_minor {P : Program} {w : World} {K : PySem.W.Frag} {mg : Str → Option Value} {base : Heap} {T0 : List Addr} {f : Addr} {kV doc pm cd ct : Value} {an : Option Addr} (F : FunC K "_law_minor" (top 60) f kV doc pm cd ct an) (hmg : mg "_law_minor" = some (.ref f)) (bl : ∀ x ∈ (["len", "range"] : List Str), mg x = none)
     : ∀ n : Nat, DefOk P w K mg base T0 (1 + n) "_law_minor" (top 60) ["lines"] false false (mir__law_minor n)
  | 0 => defOk_bad F hmg (fun us hl => match us, hl with | [_], _ => rfl)
  | n + 1 => by
    have self := ok__law_minor (P := P) (w := w) (base := base) (T0 := T0) F hmg bl  n
    have S := sc__law_minor
    refine defOk_mk (k := 1 + n) F S [false, false, false, false, false] false false (body__law_minor (mir__law_minor n)) hmg (fun us hl => match us, hl with | [_], _ => rfl) (by rfl) (by decide) fun T hT A outer s H G b E hr => ?_
    exact (ss_cons (s_if (t_cmp (op_eqD (hr.mono (by omega : 0 ≤ 1 + n)).units) (opS_eq rfl) (e_var 0) (e_lst a_nil) (nomark _)) (ss_one (s_ret e_int)) ss_nil)
  (ss_cons (s_asg (e_tup (a_cons e_int (a_cons e_int a_nil))) (gL_tup rfl rfl (gsL_cons (gL_name (i := 1) (us := [1, 2]) S.nd) (gsL_cons (gL_name (i := 2) (us := [1, 2]) S.nd) gsL_nil))))
  (ss_cons (s_for (passes_of rfl) rfl (i_range1 rfl (bl "range" (by decide)) (a_cons (e_bi call_len_seq (caS_len rfl) (bl "len" (by decide)) (a_cons (e_var 0) a_nil)) a_nil)) (gL_name (i := 3) (us := [3]) S.nd) (ss_cons (s_if (t_cmp (op_neE (hr.mono (by omega : 0 ≤ 1 + n)).units) (opS_neE rfl) (e_ix rfl (e_ix rfl (e_var 0) e_int) (e_var 3)) e_int (nomark _)) (ss_one (s_set (i := 1) S.nd (e_add rfl (e_var 1) (e_mul rfl (e_mul rfl (e_var 2) (e_ix rfl (e_ix rfl (e_var 0) e_int) (e_var 3))) (e_callD self rfl hT (hr.mono (by omega)) (a_cons (e_own (o_comp (ow := [("each", 4)]) [4] rfl rfl S.nd (i_seq rfl (e_sl rfl (e_var 0) (p_some e_int) p_none)) (blkOk_by (by rfl)) (muAll (by rfl)) (fun _ _ _ _ _ _ _ _ => (gL_name (i := 4) (us := [4]) S.nd)) (fun _ _ _ _ _ _ _ _ => ts_nil) (fun _ _ _ _ _ _ _ _ => (e_add rfl (e_sl rfl (e_var 4) p_none (p_some (e_var 3))) (e_sl rfl (e_var 4) (p_some (e_add rfl (e_var 3) e_int)) p_none))))) a_nil)))))) ss_nil)
  (ss_one (s_set (i := 2) S.nd (e_sub e_int (e_var 2))))))
  (ss_one (s_ret (e_var 1))))))
theorem sc__law_common : FnScope ["line", "found", "number"] ["line"] (defScope (top 58)) := ⟨rfl, rfl, rfl, by decide +kernel, rfl, by decide +kernel, by decide +kernel⟩
theorem ok__law_common {P : Program} {w : World} {K : PySem.W.Frag} {mg : Str → Option Value} {base : Heap} {T0 : List Addr} {f : Addr} {kV doc pm cd ct : Value} {an : Option Addr} (F : FunC K "_law_common" (top 58) f kV doc pm cd ct an) (hmg : mg "_law_common" = some (.ref f)) (bl : ∀ x ∈ (["int"] : List Str), mg x = none)
     : DefOk P w K mg base T0 1 "_law_common" (top 58) ["line"] false false mir__law_common := by
    have S := sc__law_common
    refine defOk_mk (k := 0) F S [false, false, false] false false body__law_common hmg (fun us hl => match us, hl with | [_], _ => rfl) (by rfl) (by decide) fun T hT A outer s H G b E hr => ?_
    exact (ss_cons (s_set (i := 1) S.nd e_int)
  (ss_cons (s_for (passes_of rfl) rfl (i_seq rfl (e_var 0)) (gL_name (i := 2) (us := [2]) S.nd) (ss_one (s_if (t_cmp (op_neE (hr.mono (by decide : 0 ≤ 0)).units) (opS_neE rfl) (e_mod (e_ty call_int1 caS_int (bl "int" (by decide)) (a_cons (e_var 1) a_nil)) (e_ix rfl (e_var 2) e_int)) e_int (nomark _)) (ss_one (s_set (i := 1) S.nd (e_mul rfl (e_var 1) (e_ix rfl (e_var 2) e_int)))) ss_nil)))
  (ss_one (s_ret (e_var 1)))))
theorem sc__law_wholes : FnScope ["lines", "found", "line", "by", "top", "low"] ["lines"] (defScope (top 59)) := ⟨rfl, rfl, rfl, by decide +kernel, rfl, by decide +kernel, by decide +kernel⟩
theorem ok__law_wholes {P : Program} {w : World} {K : PySem.W.Frag} {mg : Str → Option Value} {base : Heap} {T0 : List Addr} {f : Addr} {kV doc pm cd ct : Value} {an : Option Addr} (F : FunC K "_law_wholes" (top 59) f kV doc pm cd ct an) (hmg : mg "_law_wholes" = some (.ref f)) (bl : ∀ x ∈ ([] : List Str), mg x = none)
    (d__law_common : DefOk P w K mg base T0 1 "_law_common" (top 58) ["line"] false false mir__law_common)
    (hS : Sees P base) : DefOk P w K mg base T0 33 "_law_wholes" (top 59) ["lines"] false true mir__law_wholes := by
    have S := sc__law_wholes
    refine defOk_mk (k := 32) F S [false, true, false, false, false, false] false true body__law_wholes hmg (fun us hl => match us, hl with | [_], _ => rfl) (by rfl) (by decide) fun T hT A outer s H G b E hr => ?_
    have hPy : PyR (cxOf (L2.CX P w) P w K mg base ["lines", "found", "line", "by", "top", "low"] "_law_wholes" (defScope (top 59)) f cd A outer s H E) := pyR_of hS hr (by decide) rfl rfl
    exact (ss_cons (s_setO (i := 1) S.nd (o_lst a_nil))
  (ss_cons (s_for (passes_of rfl) rfl (i_seq rfl (e_var 0)) (gL_name (i := 2) (us := [2]) S.nd) (ss_cons (s_set (i := 3) S.nd (e_callD d__law_common rfl hT (hr.mono (by decide : 1 ≤ 32)) (a_cons (e_var 2) a_nil)))
  (ss_one (s_app (i := 1) rfl (e_own (o_comp (ow := [("top", 4), ("low", 5)]) [4, 5] rfl rfl S.nd (i_seq rfl (e_var 2)) (blkOk_by (by rfl)) (muAll (by rfl)) (fun _ _ _ _ _ _ _ _ => (gL_tup rfl rfl (gsL_cons (gL_name (i := 4) (us := [4, 5]) S.nd) (gsL_cons (gL_name (i := 5) (us := [4, 5]) S.nd) gsL_nil)))) (fun _ _ _ _ _ _ _ _ => ts_nil) (fun _ _ _ _ _ _ _ _ => (e_mul rfl (e_var 4) (e_divP hPy.blk (e_var 3) (e_var 5))))))))))
  (ss_one (s_retO (o_frz (i := 1))))))
theorem sc__law_det : FnScope ["grid", "low", "line"] ["grid"] (defScope (top 61)) := ⟨rfl, rfl, rfl, by decide +kernel, rfl, by decide +kernel, by decide +kernel⟩
theorem ok__law_det {P : Program} {w : World} {K : PySem.W.Frag} {mg : Str → Option Value} {base : Heap} {T0 : List Addr} {f : Addr} {kV doc pm cd ct : Value} {an : Option Addr} (F : FunC K "_law_det" (top 61) f kV doc pm cd ct an) (hmg : mg "_law_det" = some (.ref f)) (bl : ∀ x ∈ ([] : List Str), mg x = none)
    (d__law_common : DefOk P w K mg base T0 1 "_law_common" (top 58) ["line"] false false mir__law_common)
    (d__law_lean : DefOk P w K mg base T0 33 "_law_lean" (top 43) ["top", "low"] false false mir__law_lean)
    (d__law_minor : DefOk P w K mg base T0 9 "_law_minor" (top 60) ["lines"] false false (mir__law_minor 8))
    (d__law_wholes : DefOk P w K mg base T0 33 "_law_wholes" (top 59) ["lines"] false true mir__law_wholes) : DefOk P w K mg base T0 34 "_law_det" (top 61) ["grid"] false false mir__law_det := by
    have S := sc__law_det
    refine defOk_mk (k := 33) F S [false, false, false] false false body__law_det hmg (fun us hl => match us, hl with | [_], _ => rfl) (by rfl) (by decide) fun T hT A outer s H G b E hr => ?_
    exact (ss_cons (s_set (i := 1) S.nd e_int)
  (ss_cons (s_for (passes_of rfl) rfl (i_seq rfl (e_var 0)) (gL_name (i := 2) (us := [2]) S.nd) (ss_one (s_set (i := 1) S.nd (e_mul rfl (e_var 1) (e_callD d__law_common rfl hT (hr.mono (by decide : 1 ≤ 33)) (a_cons (e_var 2) a_nil))))))
  (ss_one (s_ret (e_callD d__law_lean rfl hT (hr.mono (by decide : 33 ≤ 33)) (a_cons (e_callD d__law_minor rfl hT (hr.mono (by decide : 9 ≤ 33)) (a_cons (e_own (o_callD d__law_wholes rfl hT (hr.mono (by decide : 33 ≤ 33)) (a_cons (e_var 0) a_nil))) a_nil)) (a_cons (e_var 1) a_nil)))))))
theorem sc__law_is_whole : FnScope ["thing"] ["thing"] (defScope (top 63)) := ⟨rfl, rfl, rfl, by decide +kernel, rfl, by decide +kernel, by decide +kernel⟩
theorem ok__law_is_whole {P : Program} {w : World} {K : PySem.W.Frag} {mg : Str → Option Value} {base : Heap} {T0 : List Addr} {f : Addr} {kV doc pm cd ct : Value} {an : Option Addr} (F : FunC K "_law_is_whole" (top 63) f kV doc pm cd ct an) (hmg : mg "_law_is_whole" = some (.ref f)) (bl : ∀ x ∈ (["bool", "int", "isinstance"] : List Str), mg x = none)
     : DefOk P w K mg base T0 1 "_law_is_whole" (top 63) ["thing"] false false mir__law_is_whole := by
    have S := sc__law_is_whole
    refine defOk_mk (k := 0) F S [false] false false body__law_is_whole hmg (fun us hl => match us, hl with | [_], _ => rfl) (by rfl) (by decide) fun T hT A outer s H G b E hr => ?_
    exact (ss_one (s_ret (e_andV (e_isi rfl ok_int (e_var 0) (bl "isinstance" (by decide)) (bl "int" (by decide))) (e_one (e_notV rfl (e_isi rfl ok_bool (e_var 0) (bl "isinstance" (by decide)) (bl "bool" (by decide))))))))
theorem sc__law_same : FnScope ["told", "due", "x", "y"] ["told", "due"] (defScope (top 64)) := ⟨rfl, rfl, rfl, by decide +kernel, rfl, by decide +kernel, by decide +kernel⟩
theorem ok__law_same {P : Program} {w : World} {K : PySem.W.Frag} {mg : Str → Option Value} {base : Heap} {T0 : List Addr} {f : Addr} {kV doc pm cd ct : Value} {an : Option Addr} (F : FunC K "_law_same" (top 64) f kV doc pm cd ct an) (hmg : mg "_law_same" = some (.ref f)) (bl : ∀ x ∈ (["all", "bool", "isinstance", "len", "str", "tuple", "zip"] : List Str), mg x = none)
    (d__law_is_whole : DefOk P w K mg base T0 1 "_law_is_whole" (top 63) ["thing"] false false mir__law_is_whole) : ∀ n : Nat, DefOk P w K mg base T0 (2 + n) "_law_same" (top 64) ["told", "due"] false false (mir__law_same n)
  | 0 => defOk_bad F hmg (fun us hl => match us, hl with | [_, _], _ => rfl)
  | n + 1 => by
    have self := ok__law_same (P := P) (w := w) (base := base) (T0 := T0) F hmg bl d__law_is_whole n
    have S := sc__law_same
    refine defOk_mk (k := 2 + n) F S [false, false, false, false] false false (body__law_same (mir__law_same n)) hmg (fun us hl => match us, hl with | [_, _], _ => rfl) (by rfl) (by decide) fun T hT A outer s H G b E hr => ?_
    exact (ss_cons (s_if (t_truth rfl (e_isi rfl ok_tuple (e_var 1) (bl "isinstance" (by decide)) (bl "tuple" (by decide)))) (ss_one (s_ret (e_andV (e_isi rfl ok_tuple (e_var 0) (bl "isinstance" (by decide)) (bl "tuple" (by decide))) (e_andV (e_eq rfl (hr.mono (by omega : 0 ≤ 2 + n)).units (e_bi call_len_seq (caS_len rfl) (bl "len" (by decide)) (a_cons (e_var 0) a_nil)) (e_bi call_len_seq (caS_len rfl) (bl "len" (by decide)) (a_cons (e_var 1) a_nil))) (e_one (e_bi (cr_all rfl) (caS_all rfl) (bl "all" (by decide)) (a_cons (e_own (o_comp (ow := [("x", 2), ("y", 3)]) [2, 3] rfl rfl S.nd (i_zip rfl (a_cons (e_var 0) (a_cons (e_var 1) a_nil)) (bl "zip" (by decide))) (blkOk_by (by rfl)) (muAll (by rfl)) (fun _ _ _ _ _ _ _ _ => (gL_tup rfl rfl (gsL_cons (gL_name (i := 2) (us := [2, 3]) S.nd) (gsL_cons (gL_name (i := 3) (us := [2, 3]) S.nd) gsL_nil)))) (fun _ _ _ _ _ _ _ _ => ts_nil) (fun _ _ _ _ _ _ _ _ => (e_callD self rfl hT (hr.mono (by omega)) (a_cons (e_var 2) (a_cons (e_var 3) a_nil)))))) a_nil))))))) ss_nil)
  (ss_cons (s_if (t_cmp op_isN opS_is (e_var 1) e_non (nomark _)) (ss_one (s_ret (e_is (e_var 0) e_non))) ss_nil)
  (ss_cons (s_if (t_truth rfl (e_isi rfl ok_bool (e_var 1) (bl "isinstance" (by decide)) (bl "bool" (by decide)))) (ss_one (s_ret (e_andV (e_isi rfl ok_bool (e_var 0) (bl "isinstance" (by decide)) (bl "bool" (by decide))) (e_one (e_eq rfl (hr.mono (by omega : 0 ≤ 2 + n)).units (e_var 0) (e_var 1)))))) ss_nil)
  (ss_cons (s_if (t_truth rfl (e_isi rfl ok_str (e_var 1) (bl "isinstance" (by decide)) (bl "str" (by decide)))) (ss_one (s_ret (e_andV (e_isi rfl ok_str (e_var 0) (bl "isinstance" (by decide)) (bl "str" (by decide))) (e_one (e_eq rfl (hr.mono (by omega : 0 ≤ 2 + n)).units (e_var 0) (e_var 1)))))) ss_nil)
  (ss_one (s_ret (e_andV (e_callD d__law_is_whole rfl hT (hr.mono (by omega : 1 ≤ 2 + n)) (a_cons (e_var 0) a_nil)) (e_one (e_eq rfl (hr.mono (by omega : 0 ≤ 2 + n)).units (e_var 0) (e_var 1))))))))))
theorem sc_determinant : FnScope ["square", "wholes", "scale", "_", "places", "lead"] ["square"] (defScope (top 36)) := ⟨rfl, rfl, rfl, by decide +kernel, rfl, by decide +kernel, by decide +kernel⟩
theorem ok_determinant {P : Program} {w : World} {K : PySem.W.Frag} {mg : Str → Option Value} {base : Heap} {T0 : List Addr} {f : Addr} {kV doc pm cd ct : Value} {an : Option Addr} (F : FunC K "determinant" (top 36) f kV doc pm cd ct an) (hmg : mg "determinant" = some (.ref f)) (bl : ∀ x ∈ (["len"] : List Str), mg x = none)
    (d_check_square : DefOk P w K mg base T0 10 "check_square" (top 35) ["square"] false false mir_check_square)
    (d_whole_rows : DefOk P w K mg base T0 33 "whole_rows" (top 17) ["rows"] false false mir_whole_rows)
    (d_swept : DefOk P w K mg base T0 35 "swept" (top 22) ["rows", "width"] false false mir_swept)
    (d_fraction : DefOk P w K mg base T0 33 "fraction" (top 15) ["top", "bottom"] false false mir_fraction)
    (g_NIL : TupG K mg "NIL" [0, 1]) : DefOk P w K mg base T0 36 "determinant" (top 36) ["square"] false false mir_determinant := by
    have S := sc_determinant
    refine defOk_mk (k := 35) F S [false, false, false, false, false, false] false false body_determinant hmg (fun us hl => match us, hl with | [_], _ => rfl) (by rfl) (by decide) fun T hT A outer s H G b E hr => ?_
    exact (ss_cons (s_drop (e_callD d_check_square rfl hT (hr.mono (by decide : 10 ≤ 35)) (a_cons (e_var 0) a_nil)))
  (ss_cons (s_asg (e_callD d_whole_rows rfl hT (hr.mono (by decide : 33 ≤ 35)) (a_cons (e_var 0) a_nil)) (gL_tup rfl rfl (gsL_cons (gL_name (i := 1) (us := [1, 2]) S.nd) (gsL_cons (gL_name (i := 2) (us := [1, 2]) S.nd) gsL_nil))))
  (ss_cons (s_asg (e_callD d_swept rfl hT (hr.mono (by decide : 35 ≤ 35)) (a_cons (e_var 1) (a_cons (e_bi call_len_seq (caS_len rfl) (bl "len" (by decide)) (a_cons (e_var 0) a_nil)) a_nil))) (gL_tup rfl rfl (gsL_cons (gL_name (i := 3) (us := [3, 4, 5]) S.nd) (gsL_cons (gL_name (i := 4) (us := [3, 4, 5]) S.nd) (gsL_cons (gL_name (i := 5) (us := [3, 4, 5]) S.nd) gsL_nil)))))
  (ss_cons (s_if (t_cmp op_lt opS_cmp (e_bi call_len_seq (caS_len rfl) (bl "len" (by decide)) (a_cons (e_var 4) a_nil)) (e_bi call_len_seq (caS_len rfl) (bl "len" (by decide)) (a_cons (e_var 0) a_nil)) (nomark _)) (ss_one (s_ret (e_globT rfl g_NIL))) ss_nil)
  (ss_one (s_ret (e_callD d_fraction rfl hT (hr.mono (by decide : 33 ≤ 35)) (a_cons (e_var 5) (a_cons (e_var 2) a_nil)))))))))
theorem sc__law_undone : FnScope ["grid", "lines", "found", "whole", "at", "line", "to", "by", "each"] ["grid"] (defScope (top 62)) := ⟨rfl, rfl, rfl, by decide +kernel, rfl, by decide +kernel, by decide +kernel⟩
theorem ok__law_undone {P : Program} {w : World} {K : PySem.W.Frag} {mg : Str → Option Value} {base : Heap} {T0 : List Addr} {f : Addr} {kV doc pm cd ct : Value} {an : Option Addr} (F : FunC K "_law_undone" (top 62) f kV doc pm cd ct an) (hmg : mg "_law_undone" = some (.ref f)) (bl : ∀ x ∈ (["int", "len", "range", "tuple"] : List Str), mg x = none)
    (d__law_wholes : DefOk P w K mg base T0 33 "_law_wholes" (top 59) ["lines"] false true mir__law_wholes)
    (d__law_minor : DefOk P w K mg base T0 9 "_law_minor" (top 60) ["lines"] false false (mir__law_minor 8))
    (d__law_common : DefOk P w K mg base T0 1 "_law_common" (top 58) ["line"] false false mir__law_common)
    (d__law_lean : DefOk P w K mg base T0 33 "_law_lean" (top 43) ["top", "low"] false false mir__law_lean) : DefOk P w K mg base T0 34 "_law_undone" (top 62) ["grid"] false false mir__law_undone := by
    have S := sc__law_undone
    refine defOk_mk (k := 33) F S [false, false, true, false, false, true, false, false, false] false false body__law_undone hmg (fun us hl => match us, hl with | [_], _ => rfl) (by rfl) (by decide) fun T hT A outer s H G b E hr => ?_
    exact (ss_cons (s_par (i := 1) (j := 2) rfl S.nd (aO_val (e_own (o_callD d__law_wholes rfl hT (hr.mono (by decide : 33 ≤ 33)) (a_cons (e_var 0) a_nil))) (aO_own (o_lst a_nil) fun _ _ _ => aO_nil)) rfl)
  (ss_cons (s_set (i := 3) S.nd (e_callD d__law_minor rfl hT (hr.mono (by decide : 9 ≤ 33)) (a_cons (e_var 1) a_nil)))
  (ss_cons (s_for (passes_of rfl) rfl (i_range1 rfl (bl "range" (by decide)) (a_cons (e_bi call_len_seq (caS_len rfl) (bl "len" (by decide)) (a_cons (e_var 0) a_nil)) a_nil)) (gL_name (i := 4) (us := [4]) S.nd) (ss_cons (s_setO (i := 5) S.nd (o_lst a_nil))
  (ss_cons (s_for (passes_of rfl) rfl (i_range1 rfl (bl "range" (by decide)) (a_cons (e_bi call_len_seq (caS_len rfl) (bl "len" (by decide)) (a_cons (e_var 0) a_nil)) a_nil)) (gL_name (i := 6) (us := [6]) S.nd) (ss_cons (s_set (i := 7) S.nd (e_callD d__law_minor rfl hT (hr.mono (by decide : 9 ≤ 33)) (a_cons (e_own (o_comp (ow := [("each", 8)]) [8] rfl rfl S.nd (i_seq rfl (e_add rfl (e_sl rfl (e_var 1) p_none (p_some (e_var 6))) (e_sl rfl (e_var 1) (p_some (e_add rfl (e_var 6) e_int)) p_none))) (blkOk_by (by rfl)) (muAll (by rfl)) (fun _ _ _ _ _ _ _ _ => (gL_name (i := 8) (us := [8]) S.nd)) (fun _ _ _ _ _ _ _ _ => ts_nil) (fun _ _ _ _ _ _ _ _ => (e_add rfl (e_sl rfl (e_var 8) p_none (p_some (e_var 4))) (e_sl rfl (e_var 8) (p_some (e_add rfl (e_var 4) e_int)) p_none))))) a_nil)))
  (ss_cons (s_set (i := 7) S.nd (e_mul rfl (e_var 7) (e_callD d__law_common rfl hT (hr.mono (by decide : 1 ≤ 33)) (a_cons (e_ix rfl (e_var 0) (e_var 6)) a_nil))))
  (ss_one (s_app (i := 5) rfl (e_callD d__law_lean rfl hT (hr.mono (by decide : 33 ≤ 33)) (a_cons (e_if (t_cmp (op_eqD (hr.mono (by decide : 0 ≤ 33)).units) (opS_eq rfl) (e_mod (e_ty call_int1 caS_int (bl "int" (by decide)) (a_cons (e_add rfl (e_var 4) (e_var 6)) a_nil)) e_int) e_int (nomark _)) (e_var 7) (e_sub e_int (e_var 7))) (a_cons (e_var 3) a_nil))))))))
  (ss_one (s_app (i := 2) rfl (e_tupS (i := 5) rfl (bl "tuple" (by decide))))))))
  (ss_one (s_ret (e_tupS (i := 2) rfl (bl "tuple" (by decide))))))))
theorem sc_check_table : FnScope ["table"] ["table"] (defScope (top 27)) := ⟨rfl, rfl, rfl, by decide +kernel, rfl, by decide +kernel, by decide +kernel⟩
theorem ok_check_table {P : Program} {w : World} {K : PySem.W.Frag} {mg : Str → Option Value} {base : Heap} {T0 : List Addr} {f : Addr} {kV doc pm cd ct : Value} {an : Option Addr} (F : FunC K "check_table" (top 27) f kV doc pm cd ct an) (hmg : mg "check_table" = some (.ref f)) (bl : ∀ x ∈ ([] : List Str), mg x = none)
    (d_is_table : DefOk P w K mg base T0 8 "is_table" (top 26) ["value"] false false mir_is_table) : DefOk P w K mg base T0 9 "check_table" (top 27) ["table"] false false mir_check_table := by
    have S := sc_check_table
    refine defOk_mk (k := 8) F S [false] false false body_check_table hmg (fun us hl => match us, hl with | [_], _ => rfl) (by rfl) (by decide) fun T hT A outer s H G b E hr => ?_
    exact (ss_one (s_if (t_not (t_truth rfl (e_callD d_is_table rfl hT (hr.mono (by decide : 8 ≤ 8)) (a_cons (e_var 0) a_nil)))) (ss_one s_bad) ss_nil))
theorem sc_is_between : FnScope ["value", "least", "most"] ["value", "least", "most"] (defScope (top 11)) := ⟨rfl, rfl, rfl, by decide +kernel, rfl, by decide +kernel, by decide +kernel⟩
theorem ok_is_between {P : Program} {w : World} {K : PySem.W.Frag} {mg : Str → Option Value} {base : Heap} {T0 : List Addr} {f : Addr} {kV doc pm cd ct : Value} {an : Option Addr} (F : FunC K "is_between" (top 11) f kV doc pm cd ct an) (hmg : mg "is_between" = some (.ref f)) (bl : ∀ x ∈ ([] : List Str), mg x = none)
    (d_is_whole : DefOk P w K mg base T0 1 "is_whole" (top 10) ["value"] false false mir_is_whole) : DefOk P w K mg base T0 2 "is_between" (top 11) ["value", "least", "most"] false false mir_is_between := by
    have S := sc_is_between
    refine defOk_mk (k := 1) F S [false, false, false] false false body_is_between hmg (fun us hl => match us, hl with | [_, _, _], _ => rfl) (by rfl) (by decide) fun T hT A outer s H G b E hr => ?_
    exact (ss_one (s_ret (e_andV (e_callD d_is_whole rfl hT (hr.mono (by decide : 1 ≤ 1)) (a_cons (e_var 0) a_nil)) (e_one (e_chain op_le op_le (e_var 1) (e_var 0) (e_var 2))))))
theorem sc_is_lot : FnScope ["value", "many", "least", "index"] ["value", "many"] (defScope (top 28)) := ⟨rfl, rfl, rfl, by decide +kernel, rfl, by decide +kernel, by decide +kernel⟩
theorem ok_is_lot {P : Program} {w : World} {K : PySem.W.Frag} {mg : Str → Option Value} {base : Heap} {T0 : List Addr} {f : Addr} {kV doc pm cd ct : Value} {an : Option Addr} (F : FunC K "is_lot" (top 28) f kV doc pm cd ct an) (hmg : mg "is_lot" = some (.ref f)) (bl : ∀ x ∈ (["isinstance", "tuple"] : List Str), mg x = none)
    (d_is_between : DefOk P w K mg base T0 2 "is_between" (top 11) ["value", "least", "most"] false false mir_is_between) : DefOk P w K mg base T0 3 "is_lot" (top 28) ["value", "many"] false false mir_is_lot := by
    have S := sc_is_lot
    refine defOk_mk (k := 2) F S [false, false, false, false] false false body_is_lot hmg (fun us hl => match us, hl with | [_, _], _ => rfl) (by rfl) (by decide) fun T hT A outer s H G b E hr => ?_
    exact (ss_cons (s_if (t_not (t_truth rfl (e_isi rfl ok_tuple (e_var 0) (bl "isinstance" (by decide)) (bl "tuple" (by decide))))) (ss_one (s_ret e_bl)) ss_nil)
  (ss_cons (s_set (i := 2) S.nd e_int)
  (ss_cons (s_for (passes_of rfl) rfl (i_seq rfl (e_var 0)) (gL_name (i := 3) (us := [3]) S.nd) (ss_cons (s_if (t_not (t_truth rfl (e_callD d_is_between rfl hT (hr.mono (by decide : 2 ≤ 2)) (a_cons (e_var 3) (a_cons (e_var 2) (a_cons (e_sub (e_var 1) e_int) a_nil)))))) (ss_one (s_ret e_bl)) ss_nil)
  (ss_one (s_set (i := 2) S.nd (e_add rfl (e_var 3) e_int)))))
  (ss_one (s_ret e_bl)))))
theorem sc_check_lot : FnScope ["lot", "many"] ["lot", "many"] (defScope (top 29)) := ⟨rfl, rfl, rfl, by decide +kernel, rfl, by decide +kernel, by decide +kernel⟩
theorem ok_check_lot {P : Program} {w : World} {K : PySem.W.Frag} {mg : Str → Option Value} {base : Heap} {T0 : List Addr} {f : Addr} {kV doc pm cd ct : Value} {an : Option Addr} (F : FunC K "check_lot" (top 29) f kV doc pm cd ct an) (hmg : mg "check_lot" = some (.ref f)) (bl : ∀ x ∈ ([] : List Str), mg x = none)
    (d_is_lot : DefOk P w K mg base T0 3 "is_lot" (top 28) ["value", "many"] false false mir_is_lot) : DefOk P w K mg base T0 4 "check_lot" (top 29) ["lot", "many"] false false mir_check_lot := by
    have S := sc_check_lot
    refine defOk_mk (k := 3) F S [false, false] false false body_check_lot hmg (fun us hl => match us, hl with | [_, _], _ => rfl) (by rfl) (by decide) fun T hT A outer s H G b E hr => ?_
    exact (ss_one (s_if (t_not (t_truth rfl (e_callD d_is_lot rfl hT (hr.mono (by decide : 3 ≤ 3)) (a_cons (e_var 0) (a_cons (e_var 1) a_nil))))) (ss_one s_bad) ss_nil))
theorem sc_check_part : FnScope ["table", "rows", "columns"] ["table", "rows", "columns"] (defScope (top 30)) := ⟨rfl, rfl, rfl, by decide +kernel, rfl, by decide +kernel, by decide +kernel⟩
theorem ok_check_part {P : Program} {w : World} {K : PySem.W.Frag} {mg : Str → Option Value} {base : Heap} {T0 : List Addr} {f : Addr} {kV doc pm cd ct : Value} {an : Option Addr} (F : FunC K "check_part" (top 30) f kV doc pm cd ct an) (hmg : mg "check_part" = some (.ref f)) (bl : ∀ x ∈ (["len"] : List Str), mg x = none)
    (d_check_table : DefOk P w K mg base T0 9 "check_table" (top 27) ["table"] false false mir_check_table)
    (d_check_lot : DefOk P w K mg base T0 4 "check_lot" (top 29) ["lot", "many"] false false mir_check_lot) : DefOk P w K mg base T0 10 "check_part" (top 30) ["table", "rows", "columns"] false false mir_check_part := by
    have S := sc_check_part
    refine defOk_mk (k := 9) F S [false, false, false] false false body_check_part hmg (fun us hl => match us, hl with | [_, _, _], _ => rfl) (by rfl) (by decide) fun T hT A outer s H G b E hr => ?_
    exact (ss_cons (s_drop (e_callD d_check_table rfl hT (hr.mono (by decide : 9 ≤ 9)) (a_cons (e_var 0) a_nil)))
  (ss_cons (s_drop (e_callD d_check_lot rfl hT (hr.mono (by decide : 4 ≤ 9)) (a_cons (e_var 1) (a_cons (e_bi call_len_seq (caS_len rfl) (bl "len" (by decide)) (a_cons (e_var 0) a_nil)) a_nil))))
  (ss_one (s_drop (e_callD d_check_lot rfl hT (hr.mono (by decide : 4 ≤ 9)) (a_cons (e_var 2) (a_cons (e_bi call_len_seq (caS_len rfl) (bl "len" (by decide)) (a_cons (e_ix rfl (e_var 0) e_int) a_nil)) a_nil)))))))
theorem sc_numbers_at : FnScope ["table", "rows", "columns", "j", "i"] ["table", "rows", "columns"] (defScope (top 31)) := ⟨rfl, rfl, rfl, by decide +kernel, rfl, by decide +kernel, by decide +kernel⟩
theorem ok_numbers_at {P : Program} {w : World} {K : PySem.W.Frag} {mg : Str → Option Value} {base : Heap} {T0 : List Addr} {f : Addr} {kV doc pm cd ct : Value} {an : Option Addr} (F : FunC K "numbers_at" (top 31) f kV doc pm cd ct an) (hmg : mg "numbers_at" = some (.ref f)) (bl : ∀ x ∈ (["tuple"] : List Str), mg x = none)
    {c0 P0 : Addr} (hcd : cd = .ref c0) (hP : P0 ∈ T0) (hC : PySem.W.CodeHd base c0 P0) (hbm : ∃ P1, base.BuiltinsAt mg P1) : DefOk P w K mg base T0 6 "numbers_at" (top 31) ["table", "rows", "columns"] false false mir_numbers_at := by
    have S := sc_numbers_at
    refine defOk_mk (k := 5) F S [false, false, false, false, false] false false body_numbers_at hmg (fun us hl => match us, hl with | [_, _, _], _ => rfl) (by rfl) (by decide) fun T hT A outer s H G b E hr => ?_
    have gx0 : GxIn (cxOf (L2.CX P w) P w K mg base ["table", "rows", "columns", "j", "i"] "numbers_at" (defScope (top 31)) f cd A outer s H E) (bodyB K H G [false, false, false, false, false] false b T E) c0 P0 := ⟨hcd, hT _ hP, .inl hC⟩
    exact (ss_one (s_ret (e_tupG (k := 3) (ow := [("i", 4)]) [4] rfl (hr.mono (by decide : 5 ≤ 5)) S.nd (i_seq rfl (e_var 1)) (blkOk_by (by rfl)) gx0 hbm (muAll (by rfl)) (fun _ _ _ _ _ _ _ _ _ _ _ rk7 => (gL_name (i := 4) (us := [4]) S.nd)) (fun _ _ _ _ _ _ _ _ _ _ _ rk7 gx7 => (e_tupG (k := 0) (ow := [("j", 3)]) [3] rfl ((rk7.mono (by decide : 3 ≤ 3)).deeper _) S.nd (i_seq rfl (e_var 2)) (blkOk_by (by rfl)) gx7 hbm (muAll (by rfl)) (fun _ _ _ _ _ _ _ _ _ _ _ rk8 => (gL_name (i := 3) (us := [3]) S.nd)) (fun _ _ _ _ _ _ _ _ _ _ _ rk8 gx8 => (e_ix rfl (e_ix rfl (e_var 0) (e_var 4)) (e_var 3))) (bl "tuple" (by decide)))) (bl "tuple" (by decide)))))
theorem sc_part : FnScope ["table", "rows", "columns"] ["table", "rows", "columns"] (defScope (top 32)) := ⟨rfl, rfl, rfl, by decide +kernel, rfl, by decide +kernel, by decide +kernel⟩
theorem ok_part {P : Program} {w : World} {K : PySem.W.Frag} {mg : Str → Option Value} {base : Heap} {T0 : List Addr} {f : Addr} {kV doc pm cd ct : Value} {an : Option Addr} (F : FunC K "part" (top 32) f kV doc pm cd ct an) (hmg : mg "part" = some (.ref f)) (bl : ∀ x ∈ ([] : List Str), mg x = none)
    (d_check_part : DefOk P w K mg base T0 10 "check_part" (top 30) ["table", "rows", "columns"] false false mir_check_part)
    (d_numbers_at : DefOk P w K mg base T0 6 "numbers_at" (top 31) ["table", "rows", "columns"] false false mir_numbers_at) : DefOk P w K mg base T0 11 "part" (top 32) ["table", "rows", "columns"] false false mir_part := by
    have S := sc_part
    refine defOk_mk (k := 10) F S [false, false, false] false false body_part hmg (fun us hl => match us, hl with | [_, _, _], _ => rfl) (by rfl) (by decide) fun T hT A outer s H G b E hr => ?_
    exact (ss_cons (s_drop (e_callD d_check_part rfl hT (hr.mono (by decide : 10 ≤ 10)) (a_cons (e_var 0) (a_cons (e_var 1) (a_cons (e_var 2) a_nil)))))
  (ss_one (s_ret (e_callD d_numbers_at rfl hT (hr.mono (by decide : 6 ≤ 10)) (a_cons (e_var 0) (a_cons (e_var 1) (a_cons (e_var 2) a_nil)))))))
theorem sc__law_beside : FnScope ["lot", "many", "spot"] ["lot", "many"] (defScope (top 56)) := ⟨rfl, rfl, rfl, by decide +kernel, rfl, by decide +kernel, by decide +kernel⟩
theorem ok__law_beside {P : Program} {w : World} {K : PySem.W.Frag} {mg : Str → Option Value} {base : Heap} {T0 : List Addr} {f : Addr} {kV doc pm cd ct : Value} {an : Option Addr} (F : FunC K "_law_beside" (top 56) f kV doc pm cd ct an) (hmg : mg "_law_beside" = some (.ref f)) (bl : ∀ x ∈ (["range", "tuple"] : List Str), mg x = none)
     : DefOk P w K mg base T0 1 "_law_beside" (top 56) ["lot", "many"] false false mir__law_beside := by
    have S := sc__law_beside
    refine defOk_mk (k := 0) F S [false, false, false] false false body__law_beside hmg (fun us hl => match us, hl with | [_, _], _ => rfl) (by rfl) (by decide) fun T hT A outer s H G b E hr => ?_
    exact (ss_one (s_ret (e_ty call_tuple_of (caS_tuple rfl) (bl "tuple" (by decide)) (a_cons (e_own (o_comp (ow := [("spot", 2)]) [2] rfl rfl S.nd (i_range1 rfl (bl "range" (by decide)) (a_cons (e_var 1) a_nil)) (blkOk_by (by rfl)) (muAll (by rfl)) (fun _ _ _ _ _ _ _ _ => (gL_name (i := 2) (us := [2]) S.nd)) (fun _ _ _ _ _ _ _ _ => (ts_one (t_cmp op_notIn_seq (opS_in rfl true) (e_var 2) (e_var 0) (by rfl)))) (fun _ _ _ _ _ _ _ _ => (e_var 2)))) a_nil))))
theorem sc__law_piece : FnScope ["grid", "lot", "side", "to", "at"] ["grid", "lot", "side"] (defScope (top 57)) := ⟨rfl, rfl, rfl, by decide +kernel, rfl, by decide +kernel, by decide +kernel⟩
theorem ok__law_piece {P : Program} {w : World} {K : PySem.W.Frag} {mg : Str → Option Value} {base : Heap} {T0 : List Addr} {f : Addr} {kV doc pm cd ct : Value} {an : Option Addr} (F : FunC K "_law_piece" (top 57) f kV doc pm cd ct an) (hmg : mg "_law_piece" = some (.ref f)) (bl : ∀ x ∈ (["tuple"] : List Str), mg x = none)
     : DefOk P w K mg base T0 1 "_law_piece" (top 57) ["grid", "lot", "side"] false false mir__law_piece := by
    have S := sc__law_piece
    refine defOk_mk (k := 0) F S [false, false, false, false, false] false false body__law_piece hmg (fun us hl => match us, hl with | [_, _, _], _ => rfl) (by rfl) (by decide) fun T hT A outer s H G b E hr => ?_
    exact (ss_one (s_ret (e_ty call_tuple_of (caS_tuple rfl) (bl "tuple" (by decide)) (a_cons (e_own (o_comp (ow := [("at", 4)]) [4] rfl rfl S.nd (i_seq rfl (e_var 1)) (blkOk_by (by rfl)) (muAll (by rfl)) (fun _ _ _ _ _ _ _ _ => (gL_name (i := 4) (us := [4]) S.nd)) (fun _ _ _ _ _ _ _ _ => ts_nil) (fun _ _ _ _ _ _ _ _ => (e_ty call_tuple_of (caS_tuple rfl) (bl "tuple" (by decide)) (a_cons (e_own (o_comp (ow := [("to", 3)]) [3] rfl rfl S.nd (i_seq rfl (e_var 2)) (blkOk_by (by rfl)) (muAll (by rfl)) (fun _ _ _ _ _ _ _ _ => (gL_name (i := 3) (us := [3]) S.nd)) (fun _ _ _ _ _ _ _ _ => ts_nil) (fun _ _ _ _ _ _ _ _ => (e_ix rfl (e_ix rfl (e_var 0) (e_var 4)) (e_var 3))))) a_nil))))) a_nil))))
theorem sc__law_due : FnScope ["grid", "whole", "lot", "side", "found"] ["grid", "whole", "lot", "side"] (defScope (top 65)) := ⟨rfl, rfl, rfl, by decide +kernel, rfl, by decide +kernel, by decide +kernel⟩
theorem ok__law_due {P : Program} {w : World} {K : PySem.W.Frag} {mg : Str → Option Value} {base : Heap} {T0 : List Addr} {f : Addr} {kV doc pm cd ct : Value} {an : Option Addr} (F : FunC K "_law_due" (top 65) f kV doc pm cd ct an) (hmg : mg "_law_due" = some (.ref f)) (bl : ∀ x ∈ (["int", "sum"] : List Str), mg x = none)
    (d__law_lean : DefOk P w K mg base T0 33 "_law_lean" (top 43) ["top", "low"] false false mir__law_lean)
    (d__law_det : DefOk P w K mg base T0 34 "_law_det" (top 61) ["grid"] false false mir__law_det)
    (d__law_piece : DefOk P w K mg base T0 1 "_law_piece" (top 57) ["grid", "lot", "side"] false false mir__law_piece) : DefOk P w K mg base T0 35 "_law_due" (top 65) ["grid", "whole", "lot", "side"] false false mir__law_due := by
    have S := sc__law_due
    refine defOk_mk (k := 34) F S [false, false, false, false, false] false false body__law_due hmg (fun us hl => match us, hl with | [_, _, _, _], _ => rfl) (by rfl) (by decide) fun T hT A outer s H G b E hr => ?_
    exact (ss_cons (s_set (i := 4) S.nd (e_if (t_cmp (op_eqD (hr.mono (by decide : 0 ≤ 34)).units) (opS_eq rfl) (e_var 2) (e_tup a_nil) (nomark _)) (e_callD d__law_lean rfl hT (hr.mono (by decide : 33 ≤ 34)) (a_cons e_int (a_cons e_int a_nil))) (e_callD d__law_det rfl hT (hr.mono (by decide : 34 ≤ 34)) (a_cons (e_callD d__law_piece rfl hT (hr.mono (by decide : 1 ≤ 34)) (a_cons (e_var 0) (a_cons (e_var 2) (a_cons (e_var 3) a_nil)))) a_nil))))
  (ss_cons (s_set (i := 4) S.nd (e_callD d__law_lean rfl hT (hr.mono (by decide : 33 ≤ 34)) (a_cons (e_mul rfl (e_ix rfl (e_var 4) e_int) (e_ix rfl (e_var 1) e_int)) (a_cons (e_mul rfl (e_ix rfl (e_var 4) e_int) (e_ix rfl (e_var 1) e_int)) a_nil))))
  (ss_one (s_ret (e_if (t_cmp (op_eqD (hr.mono (by decide : 0 ≤ 34)).units) (opS_eq rfl) (e_mod (e_ty call_int1 caS_int (bl "int" (by decide)) (a_cons (e_add rfl (e_bi (cr_sumD rfl) (caS_sum rfl) (bl "sum" (by decide)) (a_cons (e_var 2) a_nil)) (e_bi (cr_sumD rfl) (caS_sum rfl) (bl "sum" (by decide)) (a_cons (e_var 3) a_nil))) a_nil)) e_int) e_int (nomark _)) (e_var 4) (e_tup (a_cons (e_sub e_int (e_ix rfl (e_var 4) e_int)) (a_cons (e_ix rfl (e_var 4) e_int) a_nil))))))))
theorem sc__law_right : FnScope ["well", "many", "grid", "undo", "whole", "lot", "side", "told"] ["well"] (defScope (top 66)) := ⟨rfl, rfl, rfl, by decide +kernel, rfl, by decide +kernel, by decide +kernel⟩
theorem ok__law_right {P : Program} {w : World} {K : PySem.W.Frag} {mg : Str → Option Value} {base : Heap} {T0 : List Addr} {f : Addr} {kV doc pm cd ct : Value} {an : Option Addr} (F : FunC K "_law_right" (top 66) f kV doc pm cd ct an) (hmg : mg "_law_right" = some (.ref f)) (bl : ∀ x ∈ (["len"] : List Str), mg x = none)
    (d__law_many : DefOk P w K mg base T0 34 "_law_many" (top 53) ["well"] true false mir__law_many)
    (d__law_regular : DefOk P w K mg base T0 37 "_law_regular" (top 52) ["well", "many"] true false mir__law_regular)
    (d__law_det : DefOk P w K mg base T0 34 "_law_det" (top 61) ["grid"] false false mir__law_det)
    (d_inverse : DefOk P w K mg base T0 42 "inverse" (top 38) ["square"] false false mir_inverse)
    (d__law_lot_of : DefOk P w K mg base T0 34 "_law_lot_of" (top 55) ["well", "many", "few"] true false mir__law_lot_of)
    (d__law_draw : DefOk P w K mg base T0 33 "_law_draw" (top 41) ["well", "many"] true false mir__law_draw)
    (d__law_same : DefOk P w K mg base T0 10 "_law_same" (top 64) ["told", "due"] false false (mir__law_same 8))
    (d__law_undone : DefOk P w K mg base T0 34 "_law_undone" (top 62) ["grid"] false false mir__law_undone)
    (d_determinant : DefOk P w K mg base T0 36 "determinant" (top 36) ["square"] false false mir_determinant)
    (d__law_lots : DefOk P w K mg base T0 1 "_law_lots" (top 54) ["many"] false false mir__law_lots)
    (d_part : DefOk P w K mg base T0 11 "part" (top 32) ["table", "rows", "columns"] false false mir_part)
    (d__law_beside : DefOk P w K mg base T0 1 "_law_beside" (top 56) ["lot", "many"] false false mir__law_beside)
    (d__law_due : DefOk P w K mg base T0 35 "_law_due" (top 65) ["grid", "whole", "lot", "side"] false false mir__law_due) : DefOk P w K mg base T0 43 "_law_right" (top 66) ["well"] true false mir__law_right_v8 := by
    have S := sc__law_right
    refine defOk_mk (k := 42) F S [true, false, false, false, false, false, false, false] true false body__law_right_v8 hmg (fun us hl => match us, hl with | [_], _ => rfl) (by rfl) (by decide) fun T hT A outer s H G b E hr => ?_
    exact (ss_cons (s_set (i := 1) S.nd (e_callID 0 d__law_many rfl hT (hr.mono (by decide : 34 ≤ 42)) a_nil))
  (ss_cons (s_set (i := 2) S.nd (e_callID 0 d__law_regular rfl hT (hr.mono (by decide : 37 ≤ 42)) (a_cons (e_var 1) a_nil)))
  (ss_cons (s_par (i := 3) (j := 4) rfl S.nd (aO_val (e_callD d_inverse rfl hT (hr.mono (by decide : 42 ≤ 42)) (a_cons (e_var 2) a_nil)) (aO_val (e_callD d__law_det rfl hT (hr.mono (by decide : 34 ≤ 42)) (a_cons (e_var 2) a_nil)) aO_nil)) rfl)
  (ss_cons (s_set (i := 5) S.nd (e_callID 0 d__law_lot_of rfl hT (hr.mono (by decide : 34 ≤ 42)) (a_cons (e_var 1) (a_cons (e_callID 0 d__law_draw rfl hT (hr.mono (by decide : 33 ≤ 42)) (a_cons (e_var 1) a_nil)) a_nil))))
  (ss_cons (s_if (t_not (t_truth rfl (e_callD d__law_same rfl hT (hr.mono (by decide : 10 ≤ 42)) (a_cons (e_tup (a_cons (e_var 3) (a_cons (e_callD d_determinant rfl hT (hr.mono (by decide : 36 ≤ 42)) (a_cons (e_var 2) a_nil)) a_nil))) (a_cons (e_tup (a_cons (e_callD d__law_undone rfl hT (hr.mono (by decide : 34 ≤ 42)) (a_cons (e_var 2) a_nil)) (a_cons (e_var 4) a_nil))) a_nil))))) (ss_one (s_ret e_bl)) ss_nil)
  (ss_cons (s_for (passes_of rfl) rfl (i_seq rfl (e_callD d__law_lots rfl hT (hr.mono (by decide : 1 ≤ 42)) (a_cons (e_var 1) a_nil))) (gL_name (i := 6) (us := [6]) S.nd) (ss_one (s_if (t_cmp (op_eqD (hr.mono (by decide : 0 ≤ 42)).units) (opS_eq rfl) (e_bi call_len_seq (caS_len rfl) (bl "len" (by decide)) (a_cons (e_var 6) a_nil)) (e_bi call_len_seq (caS_len rfl) (bl "len" (by decide)) (a_cons (e_var 5) a_nil)) (nomark _)) (ss_cons (s_set (i := 7) S.nd (e_callD d_determinant rfl hT (hr.mono (by decide : 36 ≤ 42)) (a_cons (e_callD d_part rfl hT (hr.mono (by decide : 11 ≤ 42)) (a_cons (e_var 3) (a_cons (e_callD d__law_beside rfl hT (hr.mono (by decide : 1 ≤ 42)) (a_cons (e_var 6) (a_cons (e_var 1) a_nil))) (a_cons (e_callD d__law_beside rfl hT (hr.mono (by decide : 1 ≤ 42)) (a_cons (e_var 5) (a_cons (e_var 1) a_nil))) a_nil)))) a_nil)))
  (ss_one (s_if (t_not (t_truth rfl (e_callD d__law_same rfl hT (hr.mono (by decide : 10 ≤ 42)) (a_cons (e_var 7) (a_cons (e_callD d__law_due rfl hT (hr.mono (by decide : 35 ≤ 42)) (a_cons (e_var 2) (a_cons (e_var 4) (a_cons (e_var 5) (a_cons (e_var 6) a_nil))))) a_nil))))) (ss_one (s_ret e_bl)) ss_nil))) ss_nil)))
  (ss_one (s_ret e_bl))))))))
theorem sc__law_well : FnScope ["script", "turn", "mixed", "cell", "own"] ["script", "turn"] (defScope (top 40)) := ⟨rfl, rfl, rfl, by decide +kernel, rfl, by decide +kernel, by decide +kernel⟩
theorem ok__law_well {P : Program} {w : World} {K : PySem.W.Frag} {mg : Str → Option Value} {base : Heap} {T0 : List Addr} {f : Addr} {kV doc pm cd ct : Value} {an : Option Addr} (F : FunC K "_law_well" (top 40) f kV doc pm cd ct an) (hmg : mg "_law_well" = some (.ref f)) (bl : ∀ x ∈ (["abs", "int", "len"] : List Str), mg x = none)
     : DefOk P w K mg base T0 1 "_law_well" (top 40) ["script", "turn"] false true mir__law_well_v8 := by
    have S := sc__law_well
    refine defOk_mk (k := 0) F S [false, false, false, false, false] false true body__law_well_v8 hmg (fun us hl => match us, hl with | [_, _], _ => rfl) (by rfl) (by decide) fun T hT A outer s H G b E hr => ?_
    exact (ss_cons (s_set (i := 2) S.nd (e_add rfl e_int (e_mul rfl e_int (e_var 1))))
  (ss_cons (s_for (passes_of rfl) rfl (i_seq rfl (e_sl rfl (e_var 0) p_none (p_some e_int))) (gL_name (i := 3) (us := [3]) S.nd) (ss_one (s_set (i := 2) S.nd (e_mod (e_ty call_int1 caS_int (bl "int" (by decide)) (a_cons (e_add rfl (e_add rfl (e_mul rfl (e_var 2) e_int) (e_mod (e_ty call_int1 caS_int (bl "int" (by decide)) (a_cons (e_var 3) a_nil)) e_int)) e_int) a_nil)) e_int))))
  (ss_cons (s_set (i := 4) S.nd (e_if (t_cmp op_lt opS_cmp (e_var 1) (e_bi call_len_seq (caS_len rfl) (bl "len" (by decide)) (a_cons (e_var 0) a_nil)) (nomark _)) (e_ty call_int1 caS_int (bl "int" (by decide)) (a_cons (e_ix rfl (e_var 0) (e_var 1)) a_nil)) e_int))
  (ss_cons (s_set (i := 2) S.nd (e_mod (e_ty call_int1 caS_int (bl "int" (by decide)) (a_cons (e_add rfl (e_add rfl (e_mul rfl (e_var 2) e_int) (e_mul rfl (e_mod (e_ty call_int1 caS_int (bl "int" (by decide)) (a_cons (e_var 4) a_nil)) e_int) e_int)) e_int) a_nil)) e_int))
  (ss_one (s_retO (o_lst (a_cons (e_if ((t_or (t_cmp op_lt opS_cmp (e_var 4) e_int (nomark _)) (t_or1 (t_cmp op_ge opS_cmp (e_var 4) (e_pow e_int e_int) (nomark _))))).pt (e_bi call_abs caS_I1 (bl "abs" (by decide)) (a_cons (e_var 4) a_nil)) e_int) (a_cons (e_var 2) (a_cons e_int (a_cons e_int a_nil)))))))))))
theorem sc_law : FnScope ["script", "turn"] ["script"] (defScope (top 67)) := ⟨rfl, rfl, rfl, by decide +kernel, rfl, by decide +kernel, by decide +kernel⟩
theorem ok_law {P : Program} {w : World} {K : PySem.W.Frag} {mg : Str → Option Value} {base : Heap} {T0 : List Addr} {f : Addr} {kV doc pm cd ct : Value} {an : Option Addr} (F : FunC K "law" (top 67) f kV doc pm cd ct an) (hmg : mg "law" = some (.ref f)) (bl : ∀ x ∈ (["all", "len", "max", "min", "range"] : List Str), mg x = none)
    (d__law_right : DefOk P w K mg base T0 43 "_law_right" (top 66) ["well"] true false mir__law_right_v8)
    (d__law_well : DefOk P w K mg base T0 1 "_law_well" (top 40) ["script", "turn"] false true mir__law_well_v8) : DefOk P w K mg base T0 44 "law" (top 67) ["script"] false false mir_law_v8 := by
    have S := sc_law
    refine defOk_mk (k := 43) F S [false, false] false false body_law_v8 hmg (fun us hl => match us, hl with | [_], _ => rfl) (by rfl) (by decide) fun T hT A outer s H G b E hr => ?_
    exact (ss_one (s_ret (e_bi (cr_all rfl) (caS_all rfl) (bl "all" (by decide)) (a_cons (e_own (o_comp (ow := [("turn", 1)]) [1] rfl rfl S.nd (i_range1 rfl (bl "range" (by decide)) (a_cons (e_bi (call_max2 rfl) caS_I2 (bl "max" (by decide)) (a_cons e_int (a_cons (e_bi (call_min2 rfl) caS_I2 (bl "min" (by decide)) (a_cons (e_bi call_len_seq (caS_len rfl) (bl "len" (by decide)) (a_cons (e_var 0) a_nil)) (a_cons e_int a_nil))) a_nil))) a_nil)) (blkOk_by (by rfl)) (muAll (by rfl)) (fun _ _ _ _ _ _ _ _ => (gL_name (i := 1) (us := [1]) S.nd)) (fun _ _ _ _ _ _ _ _ => ts_nil) (fun _ _ _ _ _ _ _ _ => (e_callTD d__law_right rfl hT (hr.mono (by decide : 43 ≤ 43)) (o_callD d__law_well rfl hT (hr.mono (by decide : 1 ≤ 43)) (a_cons (e_var 0) (a_cons (e_var 1) a_nil))))))) a_nil))))
end K06
/-! The end of a law whose def keeps a mirror: the script is a list that no one changes, the tables of code objects grow. -/
namespace Mir
open PySem PySem.Spec PyProof.Rows L2
/-- where the script and the tables lie, before the law runs -/
def startH (a : Addr) (o : Obj) (xs : List V) (T : List Addr) : Hp := fun b => if b = a then some (.frz o (.lst xs)) else if b ∈ T then some (.tbl #[]) else none
def onlyH (a : Addr) (o : Obj) (xs : List V) : Hp := fun b => if b = a then some (.frz o (.lst xs)) else none
section
variable {a b : Addr} {o : Obj} {xs : List V} {T : List Addr} {u : HO}
theorem startH_a : startH a o xs T a = some (.frz o (.lst xs)) := if_pos rfl
theorem startH_t (h : a ∉ T) (hb : b ∈ T) : startH a o xs T b = some (.tbl #[]) := (if_neg fun z => h (by rw [← z]; exact hb)).trans (if_pos hb)
theorem startH_inv (h : startH a o xs T b = some u) : (b = a ∧ u = .frz o (.lst xs)) ∨ (b ∈ T ∧ u = .tbl #[]) := by
  unfold startH at h
  by_cases h1 : b = a
  · rw [if_pos h1] at h
    exact .inl ⟨h1, (Option.some.inj h).symm⟩
  · rw [if_neg h1] at h
    by_cases h2 : b ∈ T
    · rw [if_pos h2] at h
      exact .inr ⟨h2, (Option.some.inj h).symm⟩
    · rw [if_neg h2] at h
      cases h
theorem dqs_ints {K : PySem.W.Frag} {H : Hp} : ∀ ns : List Int, DqAll K H (ns.map V.int) (ns.map PyData.int)
  | [] => .nil
  | n :: r => .cons (.int n) (dqs_ints r)
/-- the start keeps the ground, and the script is data -/
theorem start_sp {K : PySem.W.Frag} {ns : List Int} {m : List D → Rs} {out : Option D} (hT : a ∉ T) (hm : m [.list (ns.map PyData.int)] = .ok (.bool true) out) {E : XK} :
    spM K T false false m [.ref a] (startH a o (ns.map V.int) T) (fun v _ => v = .bl true) E := by
  refine ⟨onlyH a o (ns.map V.int), 0, [.list (ns.map PyData.int)], .plain (.cons (.lst (.inr ⟨o, if_pos rfl⟩) (dqs_ints ns)) .nil), ⟨fun b u h => ?_, .refl _, fun _ _ h _ _ => h, fun _ _ h => .inl h, fun b ps h => ?_, fun P hP => .nil (startH_t hT hP), fun _ h => h⟩, ?_⟩
  · unfold onlyH at h
    by_cases h1 : b = a
    · rw [if_pos h1] at h
      rw [← Option.some.inj h, h1]
      exact startH_a
    · rw [if_neg h1] at h
      cases h
  · unfold onlyH at h
    by_cases h1 : b = a
    · rw [if_pos h1] at h
      cases Option.some.inj h
    · rw [if_neg h1] at h
      cases h
  · rw [hm]
    intro H' G' _ _
    rw [if_neg Bool.false_ne_true]
    intro x hx
    cases hx
    rfl
end
/-- THE END: a law's def by its mirror -/
theorem end_law {P : Program} {w : World} {K : PySem.W.Frag} {mg mb : Str → Option Value} {k : Nat} {nm : Str} {st : Stmt} {fa a : Addr} {cs : List (Addr × Addr)} {x : Str} {m : List D → Rs} {out : Option D} {s₁ : Shared} {vs : List Value} {ns : List Int}
    (KX : K.In s₁.heap) (hns : s₁.heap.Ns mainGlobals mg) (hb : s₁.heap.Ns builtinsNs mb) (hbb : ∀ x : Str, x ≠ "__name__" → mb x = bootBuiltins x) (hlim : s₁.heap.NoLimit) (hg : s₁.gens = #[])
    (hT : ∀ p ∈ cs, s₁.heap.get? p.2 = some { cls := .none, data := .fields #[] }) (nT : ∀ p ∈ cs, K.lookup p.2 = none) (C : ∀ p ∈ cs, PySem.W.CodeHd s₁.heap p.1 p.2)
    (hbm : ∃ (bm : Addr) (ob : Obj), mg "__builtins__" = some (.ref bm) ∧ bm ≠ builtinsNs ∧ s₁.heap.get? bm = some ob ∧ ob.cls = .type "module" ∧ ob.dict = some builtinsNs ∧ ob.data = .plain)
    (ha : s₁.heap.get? a = some { cls := .type "list", data := .seq vs.toArray }) (hi : IntsAre vs ns) (hl : ns.length ≤ sizeLine) (hr : Room k callerA) (nl : noList K = true) (hfa : mg nm = some (.ref fa))
    (sk : NoKeys s₁.heap) (F : ∀ base : Heap, K.In base → base.Ns mainGlobals mg → base.NoSeer → (∀ p ∈ cs, LamX.TabB base mg p.1 p.2) → DefOk P w K mg base (cs.map (·.2)) k nm st [x] false false m)
    (hm : m [.list (ns.map PyData.int)] = .ok (.bool true) out) :
    codeAny (model P w) callerA (.call (.ref fa) ⟨[.ref a], []⟩) (fun r s' => r = .ok (.ret (.bool true)) ∧ OldK s₁.heap s'.heap ∧ s'.os = s₁.os ∧ AllBare s'.gens) s₁ := by
  have rv := vals_ints hi
  -- the tables' places
  have tAt : ∀ b ∈ cs.map (·.2), s₁.heap.get? b = some { cls := .none, data := .fields #[] } ∧ K.lookup b = none ∧ isCodeTable s₁.heap b := fun b hb => by
    obtain ⟨p, hp, e⟩ := List.mem_map.mp hb
    rw [← e]
    exact ⟨hT p hp, nT p hp, ((C p hp).tab (hT p hp)).isCodeTable⟩
  have aT : a ∉ cs.map (·.2) := fun z => by
    have q := (tAt a z).1
    rw [ha] at q
    exact absurd (congrArg Obj.cls (Option.some.inj q)) (fun y => by cases y)
  have aK : K.lookup a = none := by
    cases q : K.lookup a with
    | none => rfl
    | some o =>
      have e := KX a o q
      rw [ha] at e
      exact absurd q (noList_ok nl (by rw [← Option.some.inj e]))
  let o0 : Obj := { cls := .type "list", data := .seq vs.toArray }
  let H : Hp := startH a o0 (ns.map V.int) (cs.map (·.2))
  -- what the heap holds at a tracked place
  have trk : ∀ b u, H b = some u → K.lookup b = none ∧ ∃ o, s₁.heap.get? b = some o ∧ ((∃ vs n, o.data = .seq vs n) ∨ o.data = .fields #[]) := fun b u h => by
    rcases startH_inv h with ⟨e, _⟩ | ⟨e, _⟩
    · rw [e]
      exact ⟨aK, _, ha, .inl ⟨_, _, rfl⟩⟩
    · exact ⟨(tAt b e).2.1, _, (tAt b e).1, .inr rfl⟩
  have hok : HOk P w H s₁.heap := fun b u h => by
    rcases startH_inv h with ⟨e, e2⟩ | ⟨e, e2⟩
    · rw [e, e2]
      exact ⟨ha, by rw [List.length_map]; exact hl, vs, _, rv, ha⟩
    · rw [e2]
      exact (tAt b e).1
  have still : ∀ {b : Addr} {o : Obj}, s₁.heap.get? b = some o → (∀ vs n, o.data ≠ .seq vs n) → o.data ≠ .fields #[] → (hidT s₁.heap H).get? b = some o := fun {b o} e h1 h2 => hidT_get e (by
    cases q : H b with
    | none => rfl
    | some u =>
      obtain ⟨_, o', e', z⟩ := trk b u q
      rw [e] at e'
      rw [← Option.some.inj e'] at z
      rcases z with ⟨_, _, z⟩ | z
      · exact (h1 _ _ z).elim
      · exact (h2 z).elim)
  have nsK : ∀ {b : Addr} {mm : Str → Option Value}, s₁.heap.Ns b mm → (hidT s₁.heap H).Ns b mm := fun {b mm} ⟨o, es, ep, e, d, r⟩ => ⟨o, es, ep, still e (fun _ _ z => by rw [d] at z; cases z) (fun z => by rw [d] at z; cases z), d, r⟩
  have KB : K.In (hidT s₁.heap H) := fun b o e => hidT_get (KX b o e) (by
    cases q : H b with
    | none => rfl
    | some u =>
      rw [(trk b u q).1] at e
      cases e)
  obtain ⟨bm, ob, b1, b2, b3, b4, b5, b6⟩ := hbm
  have gD : ∃ o es ep, s₁.heap.get? mainGlobals = some o ∧ o.data = .dict es ep := let ⟨o, es, ep, e, d, _⟩ := hns; ⟨o, es, ep, e, d⟩
  have TB : ∀ p ∈ cs, LamX.TabB (hidT s₁.heap H) mg p.1 p.2 := fun p hp => by
    obtain ⟨og, es, ep, eg, dg⟩ := gD
    refine ⟨?_, ⟨bm, ob, b1, b2, fun z => ?_, fun z => ?_, still b3 (fun _ _ z => by rw [b6] at z; cases z) (fun z => by rw [b6] at z; cases z), b4, b5, b6⟩, fun z => ?_⟩
    · obtain ⟨o, us, file, tf, flags, tg, inF, text, tt, e1, r1, r2, r3, r⟩ := C p hp
      exact ⟨o, us, file, tf, flags, tg, inF, text, tt, still e1 (fun _ _ z => by rw [r2] at z; cases z) (fun z => by rw [r2] at z; cases z; simp at r3), r1, r2, r3, r⟩
    · rw [z, eg] at b3
      rw [← Option.some.inj b3, dg] at b6
      cases b6
    · rw [z, hT p hp] at b3
      rw [← Option.some.inj b3] at b6
      cases b6
    · rw [z, hT p hp] at eg
      rw [← Option.some.inj eg] at dg
      cases dg
  have SB : (hidT s₁.heap H).NoSeer := by
    refine ⟨?_, ?_, ⟨mb, nsK hb, hbb⟩, ⟨mg, bm, ob, nsK hns, b1, still b3 (fun _ _ z => by rw [b6] at z; cases z) (fun z => by rw [b6] at z; cases z), b4, b5⟩⟩
    · obtain ⟨mc, y1, y2⟩ := sk.statics
      exact ⟨mc, nsK y1, y2 _ (by decide), y2 _ (by decide)⟩
    · obtain ⟨mm, y1, y2⟩ := sk.mods
      exact ⟨mm, nsK y1, y2 _ (by decide)⟩
  obtain ⟨f, kV, doc, pm, cd, ct, an, FF, h1, _, h3⟩ := (F _ KB (nsK hns) SB TB).ex
  rw [hfa] at h1
  have ef : fa = f := by
    have z := Option.some.inj h1
    injection z
  subst ef
  have e0 : Env0 P w K mg (hidT s₁.heap H) callerA [] s₁ H := ⟨rfl, ⟨KB, nsK hns, ⟨mb, nsK hb, hbb⟩, let ⟨mc, y1, y2⟩ := hlim; ⟨mc, nsK y1, y2⟩⟩, fun b o e => of_hidT e, Nat.le_of_eq (hidT_size _ _), trivial, fun b hb => absurd (show b ∈ ([] : List Addr) from hb) (by simp), hok, .of_eq hg⟩
  have hbind := Binds.all h3 s₁ [.ref a] KX rfl
  refine codeAny_mono ((FF _ fun _ h => h).run callerA [] s₁ H ⟨[.ref a], []⟩ [.ref a] [.ref a] _ (fun _ _ _ => False) ⟨hr, rfl⟩ e0 hbind (.cons rfl .nil) (start_sp aT hm)) fun r s' h => ?_
  cases r with
  | error e =>
    obtain ⟨_, _, _, _, _, _, _, _, _, _, _, _, z⟩ := h
    exact z.elim
  | ok fl =>
    cases fl with
    | ret u =>
      obtain ⟨v, H', os, bare, un, hok', r', q⟩ := h
      have q' : v = .bl true := q
      subst q'
      obtain rfl : u = Value.bool true := r'
      -- a place that is no table is as it was
      have same : ∀ b o, b ∉ cs.map (·.2) → s₁.heap.get? b = some o → s'.heap.get? b = some o := fun b o nb e => by
        cases q : H b with
        | none => exact un.keep b o e q (fun z => absurd (show b ∈ ([] : List Addr) from z) (by simp)) (by simp)
        | some u =>
          rcases startH_inv q with ⟨e1, e2⟩ | ⟨e1, _⟩
          · rw [e2] at q
            obtain ⟨y, _⟩ := hok' b _ (un.frzs b _ _ q)
            rw [e1, ha] at e
            rw [y, ← Option.some.inj e]
          · exact absurd e1 nb
      have more : ∀ b ∈ cs.map (·.2), ∃ es : Array Value, s'.heap.get? b = some { cls := .none, data := .fields es } := fun b hb => by
        obtain ⟨es, z⟩ := un.tbls b #[] (startH_t aT hb)
        exact ⟨_, hok' b _ z⟩
      refine ⟨rfl, ⟨fun b o e => ?_, fun b o e => ?_⟩, os, bare⟩
      · by_cases hb : b ∈ cs.map (·.2)
        · obtain ⟨es, z⟩ := more b hb
          obtain ⟨y, _, ic⟩ := tAt b hb
          rw [y] at e
          rw [← Option.some.inj e]
          exact .inr (.inl ⟨ic, rfl, #[], es, rfl, by rw [Array.empty_append]; exact z⟩)
        · exact .inl (same b o hb e)
      · by_cases hb : b ∈ cs.map (·.2)
        · obtain ⟨es, z⟩ := more b hb
          exact ⟨_, z⟩
        · exact ⟨o, same b o hb e⟩
    | next => exact False.elim h
    | brk => exact False.elim h
    | cont => exact False.elim h
end Mir
namespace Mir
open PySem PySem.Spec PyProof.Rows L2
/-! ### out of the head's facts -/
/-- no list, and gcd is the library's -/
def exG (K : PySem.W.Frag) : Bool := noList K && He.eqO (PySem.W.nsIn K mainGlobals "gcd") (some (some (.builtin "math.gcd")))
theorem funC_of {K : PySem.W.Frag} {x : Str} {st : Stmt} {f : Addr} {fd : FuncData} (F : FunD K x x (defArgs st) (defBody st) (defScope st) [] [] f fd) : ∃ kV doc pm cd ct an, FunC K x st f kV doc pm cd ct an := by
  obtain ⟨oc, od, dV, kV, doc, pm, an, cd, ct, osl, e, lk, hc, hd, _⟩ := F.ex
  rcases hd with ⟨_, hd⟩ | ⟨hd, _⟩
  · subst hd
    rw [e] at lk
    exact ⟨kV, doc, pm, cd, ct, an, ⟨oc, od, osl, lk, hc⟩, F.kp⟩
  · exact absurd rfl hd
theorem funC_cd {K : PySem.W.Frag} {x : Str} {st : Stmt} {kV doc pm cd ct : Value} {an : Option Addr} (F : FunC K x st (He.fAd K (at0 x)) kV doc pm cd ct an) : cd = .ref (He.cT K (at0 x)).1 := by
  obtain ⟨oc, od, osl, lk, hc⟩ := F.ex
  obtain ⟨c, e⟩ := He.codeIn_ref hc
  have z : He.codeOf K (at0 x) = c := He.codeOf_eq lk e
  rw [e]
  exact congrArg Value.ref z.symm
theorem free_of {K : PySem.W.Frag} {h : Heap} {mg : Str → Option Value} {fa : List He.Fa} {fn : List He.DefD} (X : K.In h) (G : h.Ns mainGlobals mg) (c : He.SaysD fa fn K) {fr : List Str} (hf : ∀ x ∈ fr, He.Fa.free x ∈ fa) : ∀ x ∈ fr, mg x = none := fun x hx => He.free_ok X G (He.SaysD.facts c (hf x hx))
theorem sub_of {α : Type} [BEq α] [LawfulBEq α] {l m : List α} (h : (l.all fun x => m.contains x) = true) {p : α → Prop} (hm : ∀ x ∈ m, p x) : ∀ x ∈ l, p x := fun x hx => hm x (List.contains_iff_mem.mp (List.all_eq_true.mp h x hx))
/-- the walk of a law whose def keeps its mirror -/
theorem walk_law {l : PySem.W.OpenLaw} {n k : Nat} {q : Program} {loose : List Str} {XP : (Str → Option Value) → Heap → Prop} {d : DefRec} {st : Stmt} {x : Str} {m : List D → Rs} {N : Nat} {fa : List He.Fa} {fn : List He.DefD} {tf : List He.Defn} {ex : PySem.W.Frag → Bool}
    (hn : l.most = some n) (htr : l.prog.given.tree = none) (hn2 : n ≤ sizeLine) (hdf : d.params.defaults = []) (hr : Room k callerA) (nl : ∀ K, ex K = true → noList K = true)
    (F : ∀ (w : World) (mg : Str → Option Value) (h : Heap) (K : PySem.W.Frag), K.In h → h.Ns mainGlobals mg → He.SaysX fa fn [] tf ex w h K → ∀ base : Heap, Sees l.prog base → (∀ p ∈ tf, LamX.TabB base mg (He.cT K p).1 (He.cT K p).2) → DefOk l.prog w K mg base ((tf.map (He.cT K)).map (·.2)) k d.name st [x] false false m)
    (hm : ∀ ns : List Int, ns.length ≤ n → (∀ z ∈ ns, Builtin.Int.intBits z ≤ 1048576) → ∃ out, m [.list (ns.map PyData.int)] = .ok (.bool true) out) :
    PySem.W.WalkO q loose XP (hookY N fa fn tf ex).says l.row.toRowW d [] (fun f vs => PySem.call f vs) := by
  refine Att.attach_callB hn hdf fun w s₀ s₁ mg mb fa' o pm cd doc a vs ns G Y ho hd hcd hmg hobj hints hlen hbits hg => ?_
  obtain ⟨⟨K, KX, c⟩, sk⟩ := Y
  obtain ⟨out, e⟩ := hm ns hlen hbits
  have all : ∀ {p : Addr × Addr} {r : Addr × Addr → Prop}, (∀ t ∈ tf, r (He.cT K t)) → p ∈ tf.map (He.cT K) → r p := fun {p r} h hp => by
    obtain ⟨t, ht, e⟩ := List.mem_map.mp hp
    rw [← e]
    exact h t ht
  exact end_law (cs := tf.map (He.cT K)) KX G.T.g G.T.b G.T.builtins G.T.nolimit hg (fun p hp => all (r := fun p => s₁.heap.get? p.2 = some { cls := .none, data := .fields #[] }) c.empty hp) (fun p hp => all (r := fun p => K.lookup p.2 = none) c.out hp) (fun p hp => all (r := fun p => PySem.W.CodeHd s₁.heap p.1 p.2) (fun t ht => PySem.W.codeHd_of_K KX (c.hd t ht)) hp) G.T.bmain hobj hints (Nat.le_trans hlen hn2) hr (nl K c.more) hmg sk
    (fun base KB GB SB TB => F w mg s₁.heap K KX G.T.g c base ⟨SB, htr⟩ fun t ht => TB _ (List.mem_map.mpr ⟨t, ht, rfl⟩)) e
end Mir
/-! The law's def by its mirror, out of the head's facts. -/
namespace K06
open PySem PySem.Spec PyProof.Rows L2 RZ Mir ML
theorem facts {P : Program} {w : World} {K : PySem.W.Frag} {mg : Str → Option Value} {h : Heap} (KX : K.In h) (G : h.Ns mainGlobals mg) (c : He.SaysX fa fn [] tf exL w h K) (base : Heap) (hS : Sees P base) (TB : ∀ p ∈ tf, LamX.TabB base mg (He.cT K p).1 (He.cT K p).2) :
    DefOk P w K mg base ((tf.map (He.cT K)).map (·.2)) 44 "law" (top 67) ["script"] false false mir_law_v8 := by
  have cd := c.t.d
  have hfree := free_of KX G cd (fr := fr) (fun x hx => List.mem_append_left _ (List.mem_append_left _ (List.mem_map_of_mem hx)))
  have hglo : ∀ x ∈ dn, mg x = some (.ref (He.ga K x)) := fun x hx => He.glo_ok KX G (He.SaysD.facts cd (List.mem_append_left _ (List.mem_append_right _ (List.mem_map_of_mem hx))))
  have hmore : exL K = true := c.more
  have g_NIL : TupG K mg "NIL" [0, 1] := tupB_ok KX G (He.ba (He.ba hmore).2).1
  have g_ONE : TupG K mg "ONE" [1, 1] := tupB_ok KX G (He.ba (He.ba (He.ba hmore).2).2).1
  have hgcd : mg "gcd" = some (.builtin "math.gcd") := PySem.W.mg_of KX G (He.eqO_ok (He.ba (He.ba (He.ba (He.ba hmore).2).2).2).1)
  have hlcm : mg "lcm" = some (.builtin "math.lcm") := PySem.W.mg_of KX G (He.eqO_ok (He.ba (He.ba (He.ba (He.ba hmore).2).2).2).2)
  have g_MOST : ∃ t : Tok, mg "MOST" = some (.int 6 t) := He.int_ok KX G (He.SaysD.facts cd (List.mem_append_right _ List.mem_cons_self))
  have tT : ∀ p ∈ tf, (He.cT K p).2 ∈ (tf.map (He.cT K)).map (·.2) := fun p hp => List.mem_map.mpr ⟨_, List.mem_map.mpr ⟨p, hp, rfl⟩, rfl⟩
  generalize hT0 : (tf.map (He.cT K)).map (·.2) = T0 at tT ⊢
  obtain ⟨fd0, A0⟩ := He.SaysD.def_ cd 0 (d := dD bodyT "_law_draw" 41) rfl
  obtain ⟨kV0, doc0, pm0, cd0, ct0, an0, F0⟩ := funC_of (st := top 41) A0
  have d__law_draw := ok__law_draw (P := P) (w := w) (base := base) (T0 := T0) F0 (hglo "_law_draw" (by decide +kernel)) (sub_of (by decide +kernel) hfree) hS
  obtain ⟨fd1, A1⟩ := He.SaysD.def_ cd 1 (d := dD bodyT "_law_many" 53) rfl
  obtain ⟨kV1, doc1, pm1, cd1, ct1, an1, F1⟩ := funC_of (st := top 53) A1
  have d__law_many := ok__law_many (P := P) (w := w) (base := base) (T0 := T0) F1 (hglo "_law_many" (by decide +kernel)) (sub_of (by decide +kernel) hfree) d__law_draw
  obtain ⟨fd2, A2⟩ := He.SaysD.def_ cd 2 (d := dD bodyT "_law_flip" 45) rfl
  obtain ⟨kV2, doc2, pm2, cd2, ct2, an2, F2⟩ := funC_of (st := top 45) A2
  have d__law_flip := ok__law_flip (P := P) (w := w) (base := base) (T0 := T0) F2 (hglo "_law_flip" (by decide +kernel)) (sub_of (by decide +kernel) hfree)
  obtain ⟨fd3, A3⟩ := He.SaysD.def_ cd 3 (d := dD bodyT "_law_lean" 43) rfl
  obtain ⟨kV3, doc3, pm3, cd3, ct3, an3, F3⟩ := funC_of (st := top 43) A3
  have d__law_lean := ok__law_lean (P := P) (w := w) (base := base) (T0 := T0) F3 (hglo "_law_lean" (by decide +kernel)) (sub_of (by decide +kernel) hfree) hS
  obtain ⟨fd4, A4⟩ := He.SaysD.def_ cd 4 (d := dD bodyT "_law_dot" 44) rfl
  obtain ⟨kV4, doc4, pm4, cd4, ct4, an4, F4⟩ := funC_of (st := top 44) A4
  have d__law_dot := ok__law_dot (P := P) (w := w) (base := base) (T0 := T0) F4 (hglo "_law_dot" (by decide +kernel)) (sub_of (by decide +kernel) hfree) d__law_lean
  obtain ⟨fd5, A5⟩ := He.SaysD.def_ cd 5 (d := dD bodyT "_law_mul" 46) rfl
  obtain ⟨kV5, doc5, pm5, cd5, ct5, an5, F5⟩ := funC_of (st := top 46) A5
  have d__law_mul := ok__law_mul (P := P) (w := w) (base := base) (T0 := T0) F5 (hglo "_law_mul" (by decide +kernel)) (sub_of (by decide +kernel) hfree) d__law_flip d__law_dot
  obtain ⟨fd6, A6⟩ := He.SaysD.def_ cd 6 (d := dD bodyT "_law_pick" 42) rfl
  obtain ⟨kV6, doc6, pm6, cd6, ct6, an6, F6⟩ := funC_of (st := top 42) A6
  have d__law_pick := ok__law_pick (P := P) (w := w) (base := base) (T0 := T0) F6 (hglo "_law_pick" (by decide +kernel)) (sub_of (by decide +kernel) hfree) d__law_draw
  obtain ⟨fd7, A7⟩ := He.SaysD.def_ cd 7 (d := dD bodyT "_law_number" 47) rfl
  obtain ⟨kV7, doc7, pm7, cd7, ct7, an7, F7⟩ := funC_of (st := top 47) A7
  have d__law_number := ok__law_number (P := P) (w := w) (base := base) (T0 := T0) F7 (hglo "_law_number" (by decide +kernel)) (sub_of (by decide +kernel) hfree) d__law_draw d__law_lean
  obtain ⟨fd8, A8⟩ := He.SaysD.def_ cd 8 (d := dD bodyT "_law_spare" 49) rfl
  obtain ⟨kV8, doc8, pm8, cd8, ct8, an8, F8⟩ := funC_of (st := top 49) A8
  have d__law_spare := ok__law_spare (P := P) (w := w) (base := base) (T0 := T0) F8 (hglo "_law_spare" (by decide +kernel)) (sub_of (by decide +kernel) hfree) d__law_draw d__law_number
  obtain ⟨fd9, A9⟩ := He.SaysD.def_ cd 9 (d := dD bodyT "_law_lead" 48) rfl
  obtain ⟨kV9, doc9, pm9, cd9, ct9, an9, F9⟩ := funC_of (st := top 48) A9
  have d__law_lead := ok__law_lead (P := P) (w := w) (base := base) (T0 := T0) F9 (hglo "_law_lead" (by decide +kernel)) (sub_of (by decide +kernel) hfree) d__law_number
  obtain ⟨fd10, A10⟩ := He.SaysD.def_ cd 10 (d := dD bodyT "_law_stairs" 50) rfl
  obtain ⟨kV10, doc10, pm10, cd10, ct10, an10, F10⟩ := funC_of (st := top 50) A10
  have d__law_stairs := ok__law_stairs (P := P) (w := w) (base := base) (T0 := T0) F10 (hglo "_law_stairs" (by decide +kernel)) (sub_of (by decide +kernel) hfree) d__law_pick d__law_spare d__law_lead d__law_mul
  obtain ⟨fd11, A11⟩ := He.SaysD.def_ cd 11 (d := dD bodyT "_law_mixed" 51) rfl
  obtain ⟨kV11, doc11, pm11, cd11, ct11, an11, F11⟩ := funC_of (st := top 51) A11
  have d__law_mixed := ok__law_mixed (P := P) (w := w) (base := base) (T0 := T0) F11 (hglo "_law_mixed" (by decide +kernel)) (sub_of (by decide +kernel) hfree) d__law_draw
  obtain ⟨fd12, A12⟩ := He.SaysD.def_ cd 12 (d := dD bodyT "_law_regular" 52) rfl
  obtain ⟨kV12, doc12, pm12, cd12, ct12, an12, F12⟩ := funC_of (st := top 52) A12
  have d__law_regular := ok__law_regular (P := P) (w := w) (base := base) (T0 := T0) F12 (hglo "_law_regular" (by decide +kernel)) (sub_of (by decide +kernel) hfree) d__law_stairs d__law_draw d__law_mixed
  obtain ⟨fd13, A13⟩ := He.SaysD.def_ cd 13 (d := dD bodyT "_law_lot_of" 55) rfl
  obtain ⟨kV13, doc13, pm13, cd13, ct13, an13, F13⟩ := funC_of (st := top 55) A13
  have d__law_lot_of := ok__law_lot_of (P := P) (w := w) (base := base) (T0 := T0) F13 (hglo "_law_lot_of" (by decide +kernel)) (sub_of (by decide +kernel) hfree) d__law_draw
  obtain ⟨fd14, A14⟩ := He.SaysD.def_ cd 14 (d := dD bodyT "_law_lots" 54) rfl
  obtain ⟨kV14, doc14, pm14, cd14, ct14, an14, F14⟩ := funC_of (st := top 54) A14
  have d__law_lots := ok__law_lots (P := P) (w := w) (base := base) (T0 := T0) F14 (hglo "_law_lots" (by decide +kernel)) (sub_of (by decide +kernel) hfree)
  obtain ⟨fd15, A15⟩ := He.SaysD.def_ cd 15 (d := dD bodyT "is_tuple_of" 12) rfl
  obtain ⟨kV15, doc15, pm15, cd15, ct15, an15, F15⟩ := funC_of (st := top 12) A15
  have d_is_tuple_of := ok_is_tuple_of (P := P) (w := w) (base := base) (T0 := T0) F15 (hglo "is_tuple_of" (by decide +kernel)) (sub_of (by decide +kernel) hfree)
  obtain ⟨fd16, A16⟩ := He.SaysD.def_ cd 16 (d := dD bodyT "is_whole" 10) rfl
  obtain ⟨kV16, doc16, pm16, cd16, ct16, an16, F16⟩ := funC_of (st := top 10) A16
  have d_is_whole := ok_is_whole (P := P) (w := w) (base := base) (T0 := T0) F16 (hglo "is_whole" (by decide +kernel)) (sub_of (by decide +kernel) hfree)
  obtain ⟨fd17, A17⟩ := He.SaysD.def_ cd 17 (d := dD bodyT "is_fraction" 13) rfl
  obtain ⟨kV17, doc17, pm17, cd17, ct17, an17, F17⟩ := funC_of (st := top 13) A17
  have d_is_fraction := ok_is_fraction (P := P) (w := w) (base := base) (T0 := T0) F17 (hglo "is_fraction" (by decide +kernel)) (sub_of (by decide +kernel) hfree) d_is_tuple_of d_is_whole hgcd
  obtain ⟨fd18, A18⟩ := He.SaysD.def_ cd 18 (d := dD bodyT "is_row" 14) rfl
  obtain ⟨kV18, doc18, pm18, cd18, ct18, an18, F18⟩ := funC_of (st := top 14) A18
  have d_is_row := ok_is_row (P := P) (w := w) (base := base) (T0 := T0) F18 (hglo "is_row" (by decide +kernel)) (sub_of (by decide +kernel) hfree) d_is_tuple_of d_is_fraction (funC_cd F18) (tT (at0 "is_row") (by decide +kernel)) (TB (at0 "is_row") (by decide +kernel)).code ⟨_, (TB (at0 "is_row") (by decide +kernel)).bm⟩
  obtain ⟨fd19, A19⟩ := He.SaysD.def_ cd 19 (d := dD bodyT "is_table" 26) rfl
  obtain ⟨kV19, doc19, pm19, cd19, ct19, an19, F19⟩ := funC_of (st := top 26) A19
  have d_is_table := ok_is_table (P := P) (w := w) (base := base) (T0 := T0) F19 (hglo "is_table" (by decide +kernel)) (sub_of (by decide +kernel) hfree) d_is_row g_MOST (funC_cd F19) (tT (at0 "is_table") (by decide +kernel)) (TB (at0 "is_table") (by decide +kernel)).code ⟨_, (TB (at0 "is_table") (by decide +kernel)).bm⟩
  obtain ⟨fd20, A20⟩ := He.SaysD.def_ cd 20 (d := dD bodyT "is_square" 34) rfl
  obtain ⟨kV20, doc20, pm20, cd20, ct20, an20, F20⟩ := funC_of (st := top 34) A20
  have d_is_square := ok_is_square (P := P) (w := w) (base := base) (T0 := T0) F20 (hglo "is_square" (by decide +kernel)) (sub_of (by decide +kernel) hfree) d_is_table
  obtain ⟨fd21, A21⟩ := He.SaysD.def_ cd 21 (d := dD bodyT "check_square" 35) rfl
  obtain ⟨kV21, doc21, pm21, cd21, ct21, an21, F21⟩ := funC_of (st := top 35) A21
  have d_check_square := ok_check_square (P := P) (w := w) (base := base) (T0 := T0) F21 (hglo "check_square" (by decide +kernel)) (sub_of (by decide +kernel) hfree) d_is_square
  obtain ⟨fd22, A22⟩ := He.SaysD.def_ cd 22 (d := dD bodyT "_first_row" 18) rfl
  obtain ⟨kV22, doc22, pm22, cd22, ct22, an22, F22⟩ := funC_of (st := top 18) A22
  have d__first_row := ok__first_row (P := P) (w := w) (base := base) (T0 := T0) F22 (hglo "_first_row" (by decide +kernel)) (sub_of (by decide +kernel) hfree)
  obtain ⟨fd23, A23⟩ := He.SaysD.def_ cd 23 (d := dD bodyT "_less_multiple" 20) rfl
  obtain ⟨kV23, doc23, pm23, cd23, ct23, an23, F23⟩ := funC_of (st := top 20) A23
  have d__less_multiple := ok__less_multiple (P := P) (w := w) (base := base) (T0 := T0) F23 (hglo "_less_multiple" (by decide +kernel)) (sub_of (by decide +kernel) hfree) hS
  obtain ⟨fd24, A24⟩ := He.SaysD.def_ cd 24 (d := dD bodyT "_cleared" 21) rfl
  obtain ⟨kV24, doc24, pm24, cd24, ct24, an24, F24⟩ := funC_of (st := top 21) A24
  have d__cleared := ok__cleared (P := P) (w := w) (base := base) (T0 := T0) F24 (hglo "_cleared" (by decide +kernel)) (sub_of (by decide +kernel) hfree) d__less_multiple
  obtain ⟨fd25, A25⟩ := He.SaysD.def_ cd 25 (d := dD bodyT "_moved_up" 19) rfl
  obtain ⟨kV25, doc25, pm25, cd25, ct25, an25, F25⟩ := funC_of (st := top 19) A25
  have d__moved_up := ok__moved_up (P := P) (w := w) (base := base) (T0 := T0) F25 (hglo "_moved_up" (by decide +kernel)) (sub_of (by decide +kernel) hfree)
  obtain ⟨fd26, A26⟩ := He.SaysD.def_ cd 26 (d := dD bodyT "swept" 22) rfl
  obtain ⟨kV26, doc26, pm26, cd26, ct26, an26, F26⟩ := funC_of (st := top 22) A26
  have d_swept := ok_swept (P := P) (w := w) (base := base) (T0 := T0) F26 (hglo "swept" (by decide +kernel)) (sub_of (by decide +kernel) hfree) d__first_row d__cleared d__moved_up
  obtain ⟨fd27, A27⟩ := He.SaysD.def_ cd 27 (d := dD bodyT "whole_rows" 17) rfl
  obtain ⟨kV27, doc27, pm27, cd27, ct27, an27, F27⟩ := funC_of (st := top 17) A27
  have d_whole_rows := ok_whole_rows (P := P) (w := w) (base := base) (T0 := T0) F27 (hglo "whole_rows" (by decide +kernel)) (sub_of (by decide +kernel) hfree) hlcm hS
  obtain ⟨fd28, A28⟩ := He.SaysD.def_ cd 28 (d := dD bodyT "fraction" 15) rfl
  obtain ⟨kV28, doc28, pm28, cd28, ct28, an28, F28⟩ := funC_of (st := top 15) A28
  have d_fraction := ok_fraction (P := P) (w := w) (base := base) (T0 := T0) F28 (hglo "fraction" (by decide +kernel)) (sub_of (by decide +kernel) hfree) hgcd hS
  obtain ⟨fd29, A29⟩ := He.SaysD.def_ cd 29 (d := dD bodyT "reduced" 23) rfl
  obtain ⟨kV29, doc29, pm29, cd29, ct29, an29, F29⟩ := funC_of (st := top 23) A29
  have d_reduced := ok_reduced (P := P) (w := w) (base := base) (T0 := T0) F29 (hglo "reduced" (by decide +kernel)) (sub_of (by decide +kernel) hfree) d_swept d_whole_rows d_fraction (funC_cd F29) (tT (at0 "reduced") (by decide +kernel)) (TB (at0 "reduced") (by decide +kernel)).code ⟨_, (TB (at0 "reduced") (by decide +kernel)).bm⟩
  obtain ⟨fd30, A30⟩ := He.SaysD.def_ cd 30 (d := dD bodyT "_ends_swept" 37) rfl
  obtain ⟨kV30, doc30, pm30, cd30, ct30, an30, F30⟩ := funC_of (st := top 37) A30
  have d__ends_swept := ok__ends_swept (P := P) (w := w) (base := base) (T0 := T0) F30 (hglo "_ends_swept" (by decide +kernel)) (sub_of (by decide +kernel) hfree) d_reduced (funC_cd F30) (tT (at0 "_ends_swept") (by decide +kernel)) (TB (at0 "_ends_swept") (by decide +kernel)).code ⟨_, (TB (at0 "_ends_swept") (by decide +kernel)).bm⟩
  obtain ⟨fd31, A31⟩ := He.SaysD.def_ cd 31 (d := dD bodyT "unit_row" 16) rfl
  obtain ⟨kV31, doc31, pm31, cd31, ct31, an31, F31⟩ := funC_of (st := top 16) A31
  have d_unit_row := ok_unit_row (P := P) (w := w) (base := base) (T0 := T0) F31 (hglo "unit_row" (by decide +kernel)) (sub_of (by decide +kernel) hfree) g_NIL g_ONE (funC_cd F31) (tT (at0 "unit_row") (by decide +kernel)) (TB (at0 "unit_row") (by decide +kernel)).code ⟨_, (TB (at0 "unit_row") (by decide +kernel)).bm⟩
  obtain ⟨fd32, A32⟩ := He.SaysD.def_ cd 32 (d := dD bodyT "inverse" 38) rfl
  obtain ⟨kV32, doc32, pm32, cd32, ct32, an32, F32⟩ := funC_of (st := top 38) A32
  have d_inverse := ok_inverse (P := P) (w := w) (base := base) (T0 := T0) F32 (hglo "inverse" (by decide +kernel)) (sub_of (by decide +kernel) hfree) d_check_square d__ends_swept d_unit_row
  obtain ⟨fd33, A33⟩ := He.SaysD.def_ cd 33 (d := dD bodyT "_law_minor" 60) rfl
  obtain ⟨kV33, doc33, pm33, cd33, ct33, an33, F33⟩ := funC_of (st := top 60) A33
  have d__law_minor := ok__law_minor (P := P) (w := w) (base := base) (T0 := T0) F33 (hglo "_law_minor" (by decide +kernel)) (sub_of (by decide +kernel) hfree) 8
  obtain ⟨fd34, A34⟩ := He.SaysD.def_ cd 34 (d := dD bodyT "_law_common" 58) rfl
  obtain ⟨kV34, doc34, pm34, cd34, ct34, an34, F34⟩ := funC_of (st := top 58) A34
  have d__law_common := ok__law_common (P := P) (w := w) (base := base) (T0 := T0) F34 (hglo "_law_common" (by decide +kernel)) (sub_of (by decide +kernel) hfree)
  obtain ⟨fd35, A35⟩ := He.SaysD.def_ cd 35 (d := dD bodyT "_law_wholes" 59) rfl
  obtain ⟨kV35, doc35, pm35, cd35, ct35, an35, F35⟩ := funC_of (st := top 59) A35
  have d__law_wholes := ok__law_wholes (P := P) (w := w) (base := base) (T0 := T0) F35 (hglo "_law_wholes" (by decide +kernel)) (sub_of (by decide +kernel) hfree) d__law_common hS
  obtain ⟨fd36, A36⟩ := He.SaysD.def_ cd 36 (d := dD bodyT "_law_det" 61) rfl
  obtain ⟨kV36, doc36, pm36, cd36, ct36, an36, F36⟩ := funC_of (st := top 61) A36
  have d__law_det := ok__law_det (P := P) (w := w) (base := base) (T0 := T0) F36 (hglo "_law_det" (by decide +kernel)) (sub_of (by decide +kernel) hfree) d__law_common d__law_lean d__law_minor d__law_wholes
  obtain ⟨fd37, A37⟩ := He.SaysD.def_ cd 37 (d := dD bodyT "_law_is_whole" 63) rfl
  obtain ⟨kV37, doc37, pm37, cd37, ct37, an37, F37⟩ := funC_of (st := top 63) A37
  have d__law_is_whole := ok__law_is_whole (P := P) (w := w) (base := base) (T0 := T0) F37 (hglo "_law_is_whole" (by decide +kernel)) (sub_of (by decide +kernel) hfree)
  obtain ⟨fd38, A38⟩ := He.SaysD.def_ cd 38 (d := dD bodyT "_law_same" 64) rfl
  obtain ⟨kV38, doc38, pm38, cd38, ct38, an38, F38⟩ := funC_of (st := top 64) A38
  have d__law_same := ok__law_same (P := P) (w := w) (base := base) (T0 := T0) F38 (hglo "_law_same" (by decide +kernel)) (sub_of (by decide +kernel) hfree) d__law_is_whole 8
  obtain ⟨fd39, A39⟩ := He.SaysD.def_ cd 39 (d := dD bodyT "determinant" 36) rfl
  obtain ⟨kV39, doc39, pm39, cd39, ct39, an39, F39⟩ := funC_of (st := top 36) A39
  have d_determinant := ok_determinant (P := P) (w := w) (base := base) (T0 := T0) F39 (hglo "determinant" (by decide +kernel)) (sub_of (by decide +kernel) hfree) d_check_square d_whole_rows d_swept d_fraction g_NIL
  obtain ⟨fd40, A40⟩ := He.SaysD.def_ cd 40 (d := dD bodyT "_law_undone" 62) rfl
  obtain ⟨kV40, doc40, pm40, cd40, ct40, an40, F40⟩ := funC_of (st := top 62) A40
  have d__law_undone := ok__law_undone (P := P) (w := w) (base := base) (T0 := T0) F40 (hglo "_law_undone" (by decide +kernel)) (sub_of (by decide +kernel) hfree) d__law_wholes d__law_minor d__law_common d__law_lean
  obtain ⟨fd41, A41⟩ := He.SaysD.def_ cd 41 (d := dD bodyT "check_table" 27) rfl
  obtain ⟨kV41, doc41, pm41, cd41, ct41, an41, F41⟩ := funC_of (st := top 27) A41
  have d_check_table := ok_check_table (P := P) (w := w) (base := base) (T0 := T0) F41 (hglo "check_table" (by decide +kernel)) (sub_of (by decide +kernel) hfree) d_is_table
  obtain ⟨fd42, A42⟩ := He.SaysD.def_ cd 42 (d := dD bodyT "is_between" 11) rfl
  obtain ⟨kV42, doc42, pm42, cd42, ct42, an42, F42⟩ := funC_of (st := top 11) A42
  have d_is_between := ok_is_between (P := P) (w := w) (base := base) (T0 := T0) F42 (hglo "is_between" (by decide +kernel)) (sub_of (by decide +kernel) hfree) d_is_whole
  obtain ⟨fd43, A43⟩ := He.SaysD.def_ cd 43 (d := dD bodyT "is_lot" 28) rfl
  obtain ⟨kV43, doc43, pm43, cd43, ct43, an43, F43⟩ := funC_of (st := top 28) A43
  have d_is_lot := ok_is_lot (P := P) (w := w) (base := base) (T0 := T0) F43 (hglo "is_lot" (by decide +kernel)) (sub_of (by decide +kernel) hfree) d_is_between
  obtain ⟨fd44, A44⟩ := He.SaysD.def_ cd 44 (d := dD bodyT "check_lot" 29) rfl
  obtain ⟨kV44, doc44, pm44, cd44, ct44, an44, F44⟩ := funC_of (st := top 29) A44
  have d_check_lot := ok_check_lot (P := P) (w := w) (base := base) (T0 := T0) F44 (hglo "check_lot" (by decide +kernel)) (sub_of (by decide +kernel) hfree) d_is_lot
  obtain ⟨fd45, A45⟩ := He.SaysD.def_ cd 45 (d := dD bodyT "check_part" 30) rfl
  obtain ⟨kV45, doc45, pm45, cd45, ct45, an45, F45⟩ := funC_of (st := top 30) A45
  have d_check_part := ok_check_part (P := P) (w := w) (base := base) (T0 := T0) F45 (hglo "check_part" (by decide +kernel)) (sub_of (by decide +kernel) hfree) d_check_table d_check_lot
  obtain ⟨fd46, A46⟩ := He.SaysD.def_ cd 46 (d := dD bodyT "numbers_at" 31) rfl
  obtain ⟨kV46, doc46, pm46, cd46, ct46, an46, F46⟩ := funC_of (st := top 31) A46
  have d_numbers_at := ok_numbers_at (P := P) (w := w) (base := base) (T0 := T0) F46 (hglo "numbers_at" (by decide +kernel)) (sub_of (by decide +kernel) hfree) (funC_cd F46) (tT (at0 "numbers_at") (by decide +kernel)) (TB (at0 "numbers_at") (by decide +kernel)).code ⟨_, (TB (at0 "numbers_at") (by decide +kernel)).bm⟩
  obtain ⟨fd47, A47⟩ := He.SaysD.def_ cd 47 (d := dD bodyT "part" 32) rfl
  obtain ⟨kV47, doc47, pm47, cd47, ct47, an47, F47⟩ := funC_of (st := top 32) A47
  have d_part := ok_part (P := P) (w := w) (base := base) (T0 := T0) F47 (hglo "part" (by decide +kernel)) (sub_of (by decide +kernel) hfree) d_check_part d_numbers_at
  obtain ⟨fd48, A48⟩ := He.SaysD.def_ cd 48 (d := dD bodyT "_law_beside" 56) rfl
  obtain ⟨kV48, doc48, pm48, cd48, ct48, an48, F48⟩ := funC_of (st := top 56) A48
  have d__law_beside := ok__law_beside (P := P) (w := w) (base := base) (T0 := T0) F48 (hglo "_law_beside" (by decide +kernel)) (sub_of (by decide +kernel) hfree)
  obtain ⟨fd49, A49⟩ := He.SaysD.def_ cd 49 (d := dD bodyT "_law_piece" 57) rfl
  obtain ⟨kV49, doc49, pm49, cd49, ct49, an49, F49⟩ := funC_of (st := top 57) A49
  have d__law_piece := ok__law_piece (P := P) (w := w) (base := base) (T0 := T0) F49 (hglo "_law_piece" (by decide +kernel)) (sub_of (by decide +kernel) hfree)
  obtain ⟨fd50, A50⟩ := He.SaysD.def_ cd 50 (d := dD bodyT "_law_due" 65) rfl
  obtain ⟨kV50, doc50, pm50, cd50, ct50, an50, F50⟩ := funC_of (st := top 65) A50
  have d__law_due := ok__law_due (P := P) (w := w) (base := base) (T0 := T0) F50 (hglo "_law_due" (by decide +kernel)) (sub_of (by decide +kernel) hfree) d__law_lean d__law_det d__law_piece
  obtain ⟨fd51, A51⟩ := He.SaysD.def_ cd 51 (d := dD bodyT "_law_right" 66) rfl
  obtain ⟨kV51, doc51, pm51, cd51, ct51, an51, F51⟩ := funC_of (st := top 66) A51
  have d__law_right := ok__law_right (P := P) (w := w) (base := base) (T0 := T0) F51 (hglo "_law_right" (by decide +kernel)) (sub_of (by decide +kernel) hfree) d__law_many d__law_regular d__law_det d_inverse d__law_lot_of d__law_draw d__law_same d__law_undone d_determinant d__law_lots d_part d__law_beside d__law_due
  obtain ⟨fd52, A52⟩ := He.SaysD.def_ cd 52 (d := dD bodyT "_law_well" 40) rfl
  obtain ⟨kV52, doc52, pm52, cd52, ct52, an52, F52⟩ := funC_of (st := top 40) A52
  have d__law_well := ok__law_well (P := P) (w := w) (base := base) (T0 := T0) F52 (hglo "_law_well" (by decide +kernel)) (sub_of (by decide +kernel) hfree)
  obtain ⟨fd53, A53⟩ := He.SaysD.def_ cd 53 (d := dD bodyT "law" 67) rfl
  obtain ⟨kV53, doc53, pm53, cd53, ct53, an53, F53⟩ := funC_of (st := top 67) A53
  have d_law := ok_law (P := P) (w := w) (base := base) (T0 := T0) F53 (hglo "law" (by decide +kernel)) (sub_of (by decide +kernel) hfree) d__law_right d__law_well
  exact d_law
end K06
/-! law_k06_whole_minors_of_the_inverse, but for its mirror's promise. -/
namespace K06
open PySem PySem.W PySem.Calls PyProof.Rows
theorem holds_of (hm : ∀ ns : List Int, ns.length ≤ 63 → (∀ z ∈ ns, Builtin.Int.intBits z ≤ 1048576) → ∃ out, ML.mir_law_v8 [.list (ns.map PyData.int)] = .ok (.bool true) out) : PySem.Challenge.rw_cornerranks_k06_whole_minors_of_the_inve.Holds := by
  refine holds_pre ?_
  refine Mir.walk_law (l := PySem.Challenge.rw_cornerranks_k06_whole_minors_of_the_inve) (n := 63) (k := 44) (x := "script") (st := top 67) (m := ML.mir_law_v8) rfl tree_none (by decide) no_defaults ⟨rfl, by decide, by decide⟩ (fun K h => (He.ba h).1) ?F hm
  intro w mg h K KX G c base hS TB
  rw [law_name]
  exact facts KX G c base hS TB
end K06
theorem PySem.Challenge.cw_cornerranks_k06_whole_minors_of_the_inve_holds : PySem.Challenge.rw_cornerranks_k06_whole_minors_of_the_inve.Holds := by
  exact K06.holds_of fun ns _ _ => Mir.law06 ns
