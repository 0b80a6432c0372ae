import PyProof.Rows.All
import HandS.Head0
import HandS.Head1
import HandS.Head2
import HandS.Head3
import HandS.HeadEnd
import HandS.HeadHook1
import HandS.HeadHook2
import HandS.HeadHook3
import HandS.HeadHook4
import HandS.Words
import HandS.ExcField
import HandS.ExcIs
import Wide.All
import OpenK.AllK
import Wide.FinOn
import HandS.ForMost
import HandS.TupAny
import HandS.Dict
import HandS.WordsDict
import KE.KDictPairs
import HandS.DictTup
import HandS.ExcInit
import HandS.IsInst
import HandS.Wide
import HandS.Steps
import HandS.RaiseMore
import HandS.Iter
import HandS.SortInts
import HandS.Style
import PyProof.AutoSeq1
import HandS.WordsExc
import HandS.Gcd
import HandS.Conv
import HandS.ForExc
import HandS.Set
import HandS.Strs
import HandS.Zip
import KE.GoesMore
import HandS.Comp
import HandS.CallLocal
import HandS.More
import KE.KDictCopyH
import KE.KExcSuper
import KE.KExcMake
import HandS.Nested
import HandS.FStr
import HandS.Codes
import PyProof.StrLawsRepr
import HandS.ExcInitHot
import HandS.NestedHot
import HandS.SuiteRaise
import HandS.RaiseFrom
import KE.KExcIs
import HandS.Star
import PySem.Challenge.RW_carryclaim_k45_errors_of_their_own
set_option Elab.async false
set_option linter.all false
set_option maxRecDepth 100000
set_option maxHeartbeats 4000000
namespace Hh
open PySem PySem.Spec PyProof.Rows L2
def bltB (K : PySem.W.Frag) (x : Str) (b : String) : Bool := He.eqO (PySem.W.nsIn K mainGlobals x) (some (some (.builtin b)))
end Hh
namespace Hh
open PySem PySem.Spec PyProof.Rows L2
def refsAt (g : Addr → Option Obj) (a : Addr) : List Addr := match g a with
 | some o => He.refsD o
 | none => []
def frontier (g : Addr → Option Obj) : Nat → List Addr → List Addr
 | 0, F => F
 | n + 1, F => F ++ frontier g n (F.flatMap (refsAt g))
def asP (g : Addr → Option Obj) (n : Nat) : List Addr := frontier g n [mainGlobals] ++ [cStatics]
def clsBodyH : Stmt → List Stmt
 | .ClassDef _ _ _ b _ _ _ _ _ _ _ => b
 | _ => []
structure IniD where
 cls : Str
 qual : Str
 ini : Stmt
abbrev FnI : Type := Option (Str × Str × Arguments × FuncBody × Scope × Addr × Addr)
def iniAd (K : PySem.W.Frag) (x : Str) : Addr := He.ma K (He.ga K x) "__init__"
def fnI (K : PySem.W.Frag) (d : IniD) : FnI := match K.lookup (iniAd K d.cls) with
 | some ⟨_, _, .func fd, _⟩ => some (fd.name, fd.qualname, fd.params, fd.body, fd.scope, fd.globals, fd.builtins)
 | _ => none
def IniD.val (d : IniD) : FnI := some ("__init__", d.qual, defArgs d.ini, .stmts (defBody d.ini), defScope d.ini, mainGlobals, builtinsNs)
abbrev AlP : Type := (He.AlT × Bool) × List FnI
def obsP (n : Nat) (fa : List He.Fa) (fn : List He.DefD) (ts : List He.Tab) (ini : List IniD) (ex : PySem.W.Frag → Bool) (g : Addr → Option Obj) : AlP :=
 ((He.obsT fa fn ts (He.frG g (asP g n)), ex (He.frG g (asP g n))), ini.map (fnI (He.frG g (asP g n))))
def valP (fn : List He.DefD) (ts : List He.Tab) (ini : List IniD) (w : World) : AlP := ((He.valT fn ts w, true), ini.map IniD.val)
structure SaysP (fa : List He.Fa) (fn : List He.DefD) (ts : List He.Tab) (ini : List IniD) (ex : PySem.W.Frag → Bool) (w : World) (K : PySem.W.Frag) : Prop where
 t : He.SaysT fa fn ts w K
 more : ex K = true
 ini : ini.map (fnI K) = ini.map IniD.val
theorem SaysP.i {fa : List He.Fa} {fn : List He.DefD} {ts : List He.Tab} {ini : List IniD} {ex : PySem.W.Frag → Bool} {w : World} {K : PySem.W.Frag} (c : SaysP fa fn ts ini ex w K) (i : Nat) {d : IniD} (h : ini[i]? = some d := by rfl) : fnI K d = d.val := by
 have e : (ini.map (fnI K))[i]? = (ini.map IniD.val)[i]? := by rw [c.ini]
 rw [List.getElem?_map, List.getElem?_map, h] at e
 exact Option.some.inj e
def hookP (n : Nat) (fa : List He.Fa) (fn : List He.DefD) (ts : List He.Tab) (ini : List IniD) (ex : PySem.W.Frag → Bool) : PySem.W.Hook where
 α := AlP
 obs := fun s => obsP n fa fn ts ini ex s.heap.get?
 val := fun w => valP fn ts ini w
 says := fun w h => ∃ K : PySem.W.Frag, K.In h ∧ SaysP fa fn ts ini ex w K
 of := fun _ _ e => ⟨_, He.frG_in, ⟨congrArg (fun z : AlP => z.1.1) e, congrArg (fun z : AlP => z.1.2) e, congrArg (fun z : AlP => z.2) e⟩⟩
 keeps := fun _ _ _ ⟨K, hK, c⟩ k => ⟨K, PySem.W.Frag.In.keeps hK k, c⟩
theorem obsP_eq {n : Nat} {fa : List He.Fa} {fn : List He.DefD} {ts : List He.Tab} {ini : List IniD} {ex : PySem.W.Frag → Bool} {g : Addr → Option Obj} {s : Shared} (h : ∀ a, g a = s.heap.get? a) : obsP n fa fn ts ini ex g = (hookP n fa fn ts ini ex).obs s := by
 have e : g = s.heap.get? := funext h
 rw [e] <;> rfl
def excB (K : PySem.W.Frag) (C : Addr) : Bool := match K.lookup C with
 | some ⟨.type t, _, .cls cd, ⟨[_, _, _, _, some (.builtin n), _]⟩⟩ => (match cd.mro with
  | .ref C' :: bm => decide (t = "type") && (decide (n = "ValueError.__new__") && (decide (C' = C) && (cd.hasDict && (!cd.hasDel && PySem.HandSPX.refsVE bm))))
  | _ => false)
 | _ => false
def cdB (K : PySem.W.Frag) (cda : Addr) (qual file : Str) : Bool := match K.lookup cda with
 | some ⟨_, _, Data.fields vs, _⟩ => (match (vs[1]? : Option Value), (vs[2]? : Option Value) with
  | some (Value.str q _), some (Value.str f _) => decide (q = qual) && (file == f)
  | _, _ => false)
 | _ => false
def celB (K : PySem.W.Frag) (cc C : Addr) : Bool := match K.lookup cc with
 | some ⟨_, _, .cell (some (.ref D)), _⟩ => decide (D = C)
 | _ => false
def funB (K : PySem.W.Frag) (fI C : Addr) (qual file : Str) : Bool := match K.lookup fI with
 | some ⟨_, _, .func fd, _⟩ => (match fd.code, fd.closure, fd.defaults with
  | .ref cda, [(y, cc)], .none => decide (y = "__class__") && (cdB K cda qual file && celB K cc C)
  | _, _, _ => false)
 | _ => false
def alongB (K : PySem.W.Frag) (C : Addr) : Bool := match PySem.W.clsIn K C with
 | some cd => decide (PySem.W.alongIn K "__init__" ((cd.mro.dropWhile fun x => x != .ref C).drop 1) = some (some (.builtin "ValueError.__init__")))
 | none => false
def supB (K : PySem.W.Frag) (x qual file : Str) : Bool :=
 [excB K (He.ga K x), decide (PySem.W.findIn K (.ref (He.ga K x)) "__init__" = some (some (.ref (iniAd K x)))), decide (PySem.W.typeIn K (.ref (iniAd K x)) = some (.type "function")),
  decide (PySem.W.findIn K (.ref (He.ga K x)) "__setattr__" = some (some (.builtin "object.__setattr__"))), decide (PySem.W.subIn K (.ref (He.ga K x)) (.type "BaseException") = some true), decide (PySem.W.typeIn K (.ref (He.ga K x)) = some (.type "type")),
  PySem.W.keepIn K (.ref (He.ga K x)), funB K (iniAd K x) (He.ga K x) qual file, alongB K (He.ga K x), decide (PySem.W.mroIn K (He.ga K x) (.ref (He.ga K x)) = some true), decide (PySem.W.subIn K (.ref (He.ga K x)) (.type "ValueError") = some true),
  decide (PySem.W.nsIn K cStatics "thirdparty.any" = some none)].all fun b => b
def noatB (K : PySem.W.Frag) (x f : Str) : Bool := decide (PySem.W.findIn K (.ref (He.ga K x)) f = some none)
def xfieldB (K : PySem.W.Frag) (x : Str) : Bool := xfB K (He.ga K x)
def excCB (K : PySem.W.Frag) (x : Str) : Bool :=
 [decide (PySem.W.findIn K (.ref (He.ga K x)) "__getattribute__" = some (some (.builtin "BaseException.__getattribute__"))), decide (PySem.W.findIn K (.ref (He.ga K x)) "__getattr__" = some none), decide (PySem.W.subIn K (.ref (He.ga K x)) (.type "BaseException") = some true),
  PySem.W.hasDictIn K (He.ga K x), decide (PySem.W.findIn K (.ref (He.ga K x)) "__class__" = some (some (.builtin "object.__class__"))), decide (PySem.W.specialIn K (.builtin "object.__class__") "__get__" = some (some (.builtin "getset_descriptor.__get__"))),
  decide (PySem.W.takesIn K (.builtin "object.__class__") = some true), decide (PySem.W.mroIn K (He.ga K x) (.type "object") = some true)].all fun b => b
def kit1B (K : PySem.W.Frag) (tbl : List (Str × Bool)) (u : PySem.W.Frag → Value) : Bool := tbl.all fun p => excCB K p.1 && decide (PySem.W.kitOne K (.ref (He.ga K p.1)) (u K) = some p.2)
def mk0B (K : PySem.W.Frag) (x : Str) : Bool := [excB K (He.ga K x), decide (PySem.W.findIn K (.ref (He.ga K x)) "__init__" = some (some (.builtin "ValueError.__init__"))), PySem.W.keepIn K (.ref (He.ga K x))].all fun b => b
end Hh
namespace Hd
open PySem PySem.Spec PyProof.Rows L2 Hh
def topS (i : Nat) : Stmt := PySem.Challenge.pw_carryclaim_k45_errors_of_their_own.main.body.getD i (.Pass ⟨0, 0, 0, 0⟩)
def dd (x : Str) (st : Stmt) : He.DefD := ⟨(x, none), x, x, defArgs st, defBody st, defScope st, [], []⟩
def fnp0 : List (He.DefD) := [dd "_law_next" (topS 13), dd "_law_kinds" (topS 14), dd "law" (topS 15)]
def fn : List (He.DefD) := fnp0
def fap0 : List (He.Fa) := [.glo "_law_next", .glo "_law_kinds", .glo "law", .free "int", .free "len", .free "abs", .free "isinstance", .free "range", .free "ValueError", .glo "PaperProblem", .glo "ProgramProblem", .glo "SyntaxProblem", .glo "NoVersion", .glo "Clash", .glo "EditProblem", .glo "NotEdited", .glo "NotMergeable", .glo "Full", .glo "JournalProblem", .free "super", .glo "ClaimError"]
def fa : List (He.Fa) := fap0
def namesp0 : List (Str) := [("__name__" : Str), ("ClaimError" : Str), ("SyntaxProblem" : Str), ("ProgramProblem" : Str), ("PaperProblem" : Str), ("EditProblem" : Str), ("Clash" : Str), ("NoVersion" : Str), ("JournalProblem" : Str), ("Full" : Str), ("NotMergeable" : Str), ("NotEdited" : Str)]
def namesp1 : List (Str) := [("__name__" : Str), ("_law_next" : Str), ("_law_kinds" : Str)]
def names : List (Str) := namesp0 ++ namesp1
def ts : List He.Tab := []
def exsp0 : List (PySem.W.Frag → Bool) := [fun K => kit1B K [("ClaimError", false), ("SyntaxProblem", false), ("ProgramProblem", false), ("PaperProblem", true), ("EditProblem", false), ("Clash", false), ("NoVersion", false), ("JournalProblem", false), ("Full", false), ("NotMergeable", false), ("NotEdited", false)] (fun K => .ref (He.ga K "PaperProblem")), fun K => kit1B K [("ClaimError", false), ("SyntaxProblem", false), ("ProgramProblem", true), ("PaperProblem", false), ("EditProblem", false), ("Clash", false), ("NoVersion", false), ("JournalProblem", false), ("Full", false), ("NotMergeable", false), ("NotEdited", false)] (fun K => .ref (He.ga K "ProgramProblem")), fun K => kit1B K [("ClaimError", false), ("SyntaxProblem", true), ("ProgramProblem", false), ("PaperProblem", false), ("EditProblem", false), ("Clash", false), ("NoVersion", false), ("JournalProblem", false), ("Full", false), ("NotMergeable", false), ("NotEdited", false)] (fun K => .ref (He.ga K "SyntaxProblem")), fun K => kit1B K [("ClaimError", false), ("SyntaxProblem", false), ("ProgramProblem", false), ("PaperProblem", false), ("EditProblem", false), ("Clash", false), ("NoVersion", true), ("JournalProblem", false), ("Full", false), ("NotMergeable", false), ("NotEdited", false)] (fun K => .ref (He.ga K "NoVersion")), fun K => kit1B K [("ClaimError", false), ("SyntaxProblem", false), ("ProgramProblem", false), ("PaperProblem", false), ("EditProblem", false), ("Clash", true), ("NoVersion", false), ("JournalProblem", false), ("Full", false), ("NotMergeable", false), ("NotEdited", false)] (fun K => .ref (He.ga K "Clash")), fun K => kit1B K [("ClaimError", false), ("SyntaxProblem", false), ("ProgramProblem", false), ("PaperProblem", false), ("EditProblem", true), ("Clash", false), ("NoVersion", false), ("JournalProblem", false), ("Full", false), ("NotMergeable", false), ("NotEdited", false)] (fun K => .ref (He.ga K "EditProblem")), fun K => kit1B K [("ClaimError", false), ("SyntaxProblem", false), ("ProgramProblem", false), ("PaperProblem", false), ("EditProblem", false), ("Clash", false), ("NoVersion", false), ("JournalProblem", false), ("Full", false), ("NotMergeable", false), ("NotEdited", true)] (fun K => .ref (He.ga K "NotEdited")), fun K => kit1B K [("ClaimError", false), ("SyntaxProblem", false), ("ProgramProblem", false), ("PaperProblem", false), ("EditProblem", false), ("Clash", false), ("NoVersion", false), ("JournalProblem", false), ("Full", false), ("NotMergeable", true), ("NotEdited", false)] (fun K => .ref (He.ga K "NotMergeable")), fun K => kit1B K [("ClaimError", false), ("SyntaxProblem", false), ("ProgramProblem", false), ("PaperProblem", false), ("EditProblem", false), ("Clash", false), ("NoVersion", false), ("JournalProblem", false), ("Full", true), ("NotMergeable", false), ("NotEdited", false)] (fun K => .ref (He.ga K "Full")), fun K => kit1B K [("ClaimError", false), ("SyntaxProblem", false), ("ProgramProblem", false), ("PaperProblem", false), ("EditProblem", false), ("Clash", false), ("NoVersion", false), ("JournalProblem", true), ("Full", false), ("NotMergeable", false), ("NotEdited", false)] (fun K => .ref (He.ga K "JournalProblem")), fun K => supB K "Clash" "Clash.__init__" PySem.Challenge.pw_carryclaim_k45_errors_of_their_own.main.file, fun K => noatB K "Clash" (PySem.Str.ofString "reason"), fun K => supB K "EditProblem" "EditProblem.__init__" PySem.Challenge.pw_carryclaim_k45_errors_of_their_own.main.file, fun K => noatB K "EditProblem" (PySem.Str.ofString "reason"), fun K => supB K "PaperProblem" "PaperProblem.__init__" PySem.Challenge.pw_carryclaim_k45_errors_of_their_own.main.file, fun K => noatB K "PaperProblem" (PySem.Str.ofString "line"), fun K => supB K "ProgramProblem" "ProgramProblem.__init__" PySem.Challenge.pw_carryclaim_k45_errors_of_their_own.main.file, fun K => noatB K "ProgramProblem" (PySem.Str.ofString "where"), fun K => noatB K "ProgramProblem" (PySem.Str.ofString "reason"), fun K => supB K "SyntaxProblem" "SyntaxProblem.__init__" PySem.Challenge.pw_carryclaim_k45_errors_of_their_own.main.file]
def exsp1 : List (PySem.W.Frag → Bool) := [fun K => noatB K "SyntaxProblem" (PySem.Str.ofString "line"), fun K => noatB K "SyntaxProblem" (PySem.Str.ofString "column"), fun K => mk0B K "NotEdited", fun K => mk0B K "NotMergeable", fun K => mk0B K "Full", fun K => supB K "JournalProblem" "JournalProblem.__init__" PySem.Challenge.pw_carryclaim_k45_errors_of_their_own.main.file, fun K => noatB K "JournalProblem" (PySem.Str.ofString "position"), fun K => supB K "NoVersion" "NoVersion.__init__" PySem.Challenge.pw_carryclaim_k45_errors_of_their_own.main.file, fun K => noatB K "NoVersion" (PySem.Str.ofString "version"), fun K => kit1B K [("ClaimError", true), ("SyntaxProblem", true), ("ProgramProblem", true), ("PaperProblem", true), ("EditProblem", true), ("Clash", true), ("NoVersion", true), ("JournalProblem", true), ("Full", true), ("NotMergeable", true), ("NotEdited", true)] (fun K => .ref (He.ga K "ClaimError")), fun K => kit1B K [("ClaimError", true), ("SyntaxProblem", true), ("ProgramProblem", true), ("PaperProblem", true), ("EditProblem", true), ("Clash", true), ("NoVersion", true), ("JournalProblem", true), ("Full", true), ("NotMergeable", true), ("NotEdited", true)] (fun K => .type "ValueError"), fun K => xfieldB K "SyntaxProblem", fun K => xfieldB K "ProgramProblem", fun K => xfieldB K "Clash", fun K => xfieldB K "EditProblem", fun K => xfieldB K "PaperProblem", fun K => xfieldB K "JournalProblem", fun K => xfieldB K "NoVersion", fun K => mk0B K "ClaimError"]
def exs : List (PySem.W.Frag → Bool) := exsp0 ++ exsp1
def ex (K : PySem.W.Frag) : Bool := exs.all fun f => f K
abbrev R : PySem.W.OpenRow := PySem.W.OpenLaw.row PySem.Challenge.rw_carryclaim_k45_errors_of_their_own
abbrev V : Program := PySem.W.view R.prog [15]
def inis : List IniD := [⟨"Clash", "Clash.__init__", (clsBodyH (topS 6)).getD 0 (.Pass ⟨0, 0, 0, 0⟩)⟩, ⟨"EditProblem", "EditProblem.__init__", (clsBodyH (topS 5)).getD 0 (.Pass ⟨0, 0, 0, 0⟩)⟩, ⟨"PaperProblem", "PaperProblem.__init__", (clsBodyH (topS 4)).getD 0 (.Pass ⟨0, 0, 0, 0⟩)⟩, ⟨"ProgramProblem", "ProgramProblem.__init__", (clsBodyH (topS 3)).getD 0 (.Pass ⟨0, 0, 0, 0⟩)⟩, ⟨"SyntaxProblem", "SyntaxProblem.__init__", (clsBodyH (topS 2)).getD 0 (.Pass ⟨0, 0, 0, 0⟩)⟩, ⟨"JournalProblem", "JournalProblem.__init__", (clsBodyH (topS 8)).getD 0 (.Pass ⟨0, 0, 0, 0⟩)⟩, ⟨"NoVersion", "NoVersion.__init__", (clsBodyH (topS 7)).getD 0 (.Pass ⟨0, 0, 0, 0⟩)⟩]
abbrev hk : PySem.W.Hook := hookP 4 fa fn ts inis ex
def ob (s : PySem.W.SharedT) : AlP := obsP 4 fa fn ts inis ex (HandSHeadRun.getT s)
theorem ob_eq (s : PySem.W.SharedT) : ob s = hk.obs s.abs := obsP_eq (HandSHeadRun.getT_eq s)
theorem run_f (w : World) : HandSHeadRun.RunEq R V hk ob 20000 names (w.withFollow "special-get-raises" false) := by
 unfold HandSHeadRun.RunEq
 intro os
 kernel_rfl
theorem run_t (w : World) : HandSHeadRun.RunEq R V hk ob 20000 names (w.withFollow "special-get-raises" true) := by
 unfold HandSHeadRun.RunEq
 intro os
 kernel_rfl
theorem run (w : World) : HandSHeadRun.RunEq R V hk ob 20000 names w := PySem.W.byRow2 "special-get-raises" (P := fun w => HandSHeadRun.RunEq R V hk ob 20000 names w) run_f run_t w
end Hd
section
open PySem PySem.W PyProof.Rows
set_option maxRecDepth 100000 in
set_option maxHeartbeats 0 in
theorem Hd.fin (hw0 : PySem.W.WalkO Hd.V Hd.names (PySem.W.XL Hd.V []) Hd.hk.says Hd.R.toRowW (HandSHeadRun.topDef Hd.R.prog 15) [] (fun f vs => PySem.call f vs)) : PySem.Challenge.rw_carryclaim_k45_errors_of_their_own.Holds := by
 w_on; o_law
 refine HandSHeadRun.head_any (r := Hd.R) (q := Hd.V) (H := Hd.hk) (ob := Hd.ob) (M := 20000) (loose := Hd.names) (d := HandSHeadRun.topDef Hd.R.prog 15) (kwd := []) Hd.ob_eq (by kernel_rfl) (fun s => by kernel_rfl) Hd.run (by kernel_rfl) (by kernel_rfl) (by kernel_rfl) (by rfl) (by first | assumption | decide +kernel) (by decide +kernel) ⟨rfl, rfl, rfl, rfl, rfl, by decide +kernel⟩ ?hw hw0
 case hw => w_witness2
end
namespace L2
open PySem PySem.Spec PyProof.Rows
section
variable {X : Cx}
def NewT (H : Hp) (ys : List V) (Q : VK) : Prop := ∀ p o, H p = none → o.dict = none → Q (.ref p) (upd H p (.frz o (.tup ys)))
theorem frz_new {pins : List (Addr × Obj)} {σ : St} {H : Hp} {s : Shared} (I : Inv X pins σ H s) {ys : List V} {us : List Value} (r : Vals ys us) (z : ys.length ≤ sizeLine) {Q : VK} (q : NewT H ys Q) :
 EP X pins σ Q (.ref s.heap.objs.size) { s with heap := s.heap.push { cls := .type "tuple", data := .seq us.toArray } } := by
 have new := Heap.get?_push_size s.heap (o := { cls := .type "tuple", data := .seq us.toArray }) rfl
 exact ⟨.ref s.heap.objs.size, _, I.laid (t' := s.toks) (o := .frz { cls := .type "tuple", data := .seq us.toArray } (.tup ys)) (fun b u e => Heap.get?_push_of_some _ e) (Nat.le_refl _) ⟨new, z, us, r, ⟨_, new, rfl, _, rfl⟩⟩, rfl, q _ _ (I.hok.fresh (Nat.le_refl _)) rfl⟩
def tTupX (t : TA) : TE := fun σ H Q => t σ H fun xs H1 => xs.length ≤ sizeLine ∧ NewT H1 xs Q
theorem pe_tupX {es : List Expr} {t : TA} {pos : Pos} {x1} (h : PA X es t) : PE X (.Tuple es x1 pos) (tTupX t) :=
 ⟨fun pins s σ H Q I hq => wpAny_Tuple_spliced (thn (h.run pos pins s σ H _ I hq) fun us s1 ⟨xs, H1, I1, r, z, q⟩ => ⟨by rw [← r.length]; exact z, frz_new I1 r z q⟩)⟩
def rCatX (K : PySem.W.Frag) : R2 := fun x y H Q => ∃ a b xs ys, x = .ref a ∧ y = .ref b ∧ SqT K H a xs ∧ SqT K H b ys ∧ xs.length + ys.length ≤ sizeLine ∧
 (xs = [] → Q (.ref b) H) ∧ (xs ≠ [] → ys = [] → Q (.ref a) H) ∧ (xs ≠ [] → ys ≠ [] → NewT H (xs ++ ys) Q)
theorem op_catX : OpR X (binaryOp .Add) (rCatX X.K) := fun pins s σ H x y v u Q I rx ry h => by
 obtain ⟨a, b, xs, ys, rfl, rfl, ha, hb, hz, q0, q1, q2⟩ := h
 cases rx
 cases ry
 obtain ⟨i1, r1, p1, _⟩ := I.tuple ha
 obtain ⟨i2, r2, p2, _⟩ := I.tuple hb
 by_cases hx : xs = []
 · subst hx
   cases r1
   exact cat_tup0 p1 p2 ⟨.ref b, H, I, rfl, q0 rfl⟩
 · refine HT.cat_tup p1 p2 (fun z => hx (r1.nil_iff.mp z)) (fun z => ⟨.ref a, H, I, rfl, q1 hx (r2.nil_iff.mp z)⟩) (fun z => ?_) (by rw [← r1.length, ← r2.length]; exact hz)
   exact frz_new I (r1.append r2) (by rw [List.length_append]; exact hz) (q2 hx fun w => z (r2.nil_iff.mpr w))
end
end L2
namespace L2
open PySem PySem.Spec PyProof.Rows
end L2
namespace L2
open PySem PySem.Spec PyProof.Rows
def entO (p : List Key × Addr × V) (x : List Key × Addr × Value) : Prop := p.1 = x.1 ∧ p.2.1 = x.2.1 ∧ RelV p.2.2 x.2.2
def shO (P : Program) (w : World) (a : Addr) (q : List (List Key × Addr × V)) (h : Heap) : Prop := q.length ≤ sizeLine ∧ (a == sysModules) = false ∧ ∃ xs : List (List Key × Addr × Value), Paired entO q xs ∧
 ∃ o es ep, h.get? a = some o ∧ o.ExactDict ∧ o.data = .dict es ep ∧ es.toList = xs.map (entryOfKey (tupleKind (mixKind P w))) ∧ (xs.map (·.1)).Nodup
def DkO (P : Program) (w : World) (a : Addr) (q : List (List Key × Addr × V)) : HO := .ext (shO P w a q)
def vq (q : List (List Key × Addr × V)) : List (List Key × V) := q.map fun p => (p.1, p.2.2)
def stQ (q : List (List Key × Addr × V)) (k : List Key) (b : Addr) (v : V) : List (List Key × Addr × V) :=
 if (q.any fun p => decide (p.1 = k)) = true then q.map (fun p => if p.1 = k then (p.1, p.2.1, v) else p) else q ++ [(k, b, v)]
def KyO (K : PySem.W.Frag) (H : Hp) (q : List (List Key × Addr × V)) : Prop := ∀ p ∈ q, SqT K H p.2.1 (p.1.map kV)
theorem KyO.put {K : PySem.W.Frag} {H : Hp} {q : List (List Key × Addr × V)} (h : KyO K H q) {k : List Key} {b : Addr} (v : V) (hb : SqT K H b (k.map kV)) : KyO K H (stQ q k b v) := fun p hp => by
 unfold stQ at hp
 split at hp
 · obtain ⟨p', h1, rfl⟩ := List.mem_map.mp hp
   split
   · exact h p' h1
   · exact h p' h1
 · rcases List.mem_append.mp hp with h1 | h1
   · exact h p h1
   · rw [List.mem_singleton.mp h1]; exact hb
end L2
namespace Pd
open PySem L2
inductive D where
 | non | bl (b : Bool) | int (i : Int) | str (x : Str) | tup (xs : List D) | lst (xs : List D) | rol (xs : List D) | adr (i : Nat) | raw (v : V) | xcp (a dd : Addr) (ns : List Str) (ds : List D) | rod (ks : List Key) (ds : List D) | rot (ks : List (List Key)) (ds : List D)
inductive MO where
 | lst (xs : List D)
 | ins (C : Addr) (fs : List (Str × D))
 | dct (kvs : List (L2.Key × D))
 | dcu (P : Program) (w : World) (kvs : List (List L2.Key × D))
 | err (C : Addr) (n : Str) (fs : List (Str × D))
abbrev Rho := List (Option D)
abbrev PM := List MO
inductive Out (A : Type) where
 | ok (a : A) (M : PM)
 | exn (c : Value) (fs : Option (List (Str × D))) (M : PM)
 | bad
def Out.bind {A B : Type} : Out A → (A → PM → Out B) → Out B
 | .ok a M, g => g a M
 | .exn c fs M, _ => .exn c fs M
 | .bad, _ => .bad
@[simp] theorem Out.bind_ok {A B : Type} (a : A) (M : PM) (g : A → PM → Out B) : (Out.ok a M).bind g = g a M := rfl
@[simp] theorem Out.bind_exn {A B : Type} (c : Value) (fs : Option (List (Str × D))) (M : PM) (g : A → PM → Out B) : (Out.exn c fs M : Out A).bind g = .exn c fs M := rfl
@[simp] theorem Out.bind_bad {A B : Type} (g : A → PM → Out B) : (Out.bad : Out A).bind g = .bad := rfl
def K0 : Hp := fun _ => none
def TupAt (K : PySem.W.Frag) (α : List Addr) (H : Hp) (p : Addr) (xs : List V) : Prop := ((∃ o, H p = some (.frz o (.tup xs)) ∧ o.dict = none) ∧ p ∉ α) ∨
 ∃ (o : Obj) (its : Array Value) (n : Nat), K.lookup p = some o ∧ o.cls = .type "tuple" ∧ o.dict = none ∧ o.data = .seq its n ∧ its.size ≤ sizeLine ∧ Vals xs its.toList
def LstAt (α : List Addr) (H : Hp) (p : Addr) (xs : List V) : Prop := H p = some (.lst xs) ∧ p ∉ α
def RolAt (K : PySem.W.Frag) (α : List Addr) (H : Hp) (p : Addr) (xs : List V) : Prop := (Rd H p (.lst xs) ∧ p ∉ α) ∨ SqL K K0 p xs
section
variable {K : PySem.W.Frag} {α α' α'' : List Addr} {H H' H'' : Hp} {p a : Addr} {xs : List V}
theorem rd0 {u : HO} (h : Rd K0 p u) : False := by
 rcases h with h | ⟨o, h⟩
 · cases h
 · cases h
theorem TupAt.sq (h : TupAt K α H p xs) : SqT K H p xs := by
 rcases h with ⟨⟨o, h, _⟩, _⟩ | ⟨o, its, n, h1, h2, _, h3⟩
 · exact .inl (.inr ⟨o, h⟩)
 · exact .inr ⟨o, its, n, h1, h2, h3⟩
theorem LstAt.sq (h : LstAt α H p xs) : SqL K H p xs := .of h.1
theorem RolAt.sq (h : RolAt K α H p xs) : SqL K H p xs := by
 rcases h with h | h
 · exact .inl h.1
 · rcases h with h | h
   · exact (rd0 h).elim
   · exact .inr h
structure Step (α : List Addr) (H : Hp) (α' : List Addr) (H' : Hp) : Prop where
 ext : ∃ β, α' = α ++ β ∧ ∀ b, b ∈ β → H b = none
 pr : ∀ a o, H a = some o → a ∉ α → H' a = some o
theorem Step.refl (α : List Addr) (H : Hp) : Step α H α H := ⟨⟨[], by simp, fun _ h => by cases h⟩, fun _ _ h _ => h⟩
theorem Step.out (s : Step α H α' H') {o : HO} (h : H a = some o) (n : a ∉ α) : a ∉ α' := by
 obtain ⟨β, rfl, hb⟩ := s.ext
 intro q
 rcases List.mem_append.mp q with q | q
 · exact n q
 · rw [hb a q] at h
   cases h
theorem Step.trans (s : Step α H α' H') (t : Step α' H' α'' H'') (k : ∀ b, b ∈ α → H b ≠ none → H' b ≠ none) : Step α H α'' H'' := by
 refine ⟨?_, fun a o h n => t.pr a o (s.pr a o h n) (s.out h n)⟩
 obtain ⟨β, e, hb⟩ := s.ext
 obtain ⟨γ, e', hc⟩ := t.ext
 refine ⟨β ++ γ, by rw [e', e, List.append_assoc], fun b hb' => ?_⟩
 rcases List.mem_append.mp hb' with q | q
 · exact hb b q
 · cases h : H b with
   | none => rfl
   | some o =>
    have z := hc b q
    by_cases n : b ∈ α
    · exact absurd z (k b n (by rw [h]; exact fun q => nomatch q))
    · rw [s.pr b o h n] at z
      cases z
theorem TupAt.step (s : Step α H α' H') (h : TupAt K α H p xs) : TupAt K α' H' p xs := by
 rcases h with ⟨⟨o, h, d⟩, n⟩ | h
 · exact .inl ⟨⟨o, s.pr _ _ h n, d⟩, s.out h n⟩
 · exact .inr h
theorem LstAt.step (s : Step α H α' H') (h : LstAt α H p xs) : LstAt α' H' p xs := ⟨s.pr _ _ h.1 h.2, s.out h.1 h.2⟩
theorem RolAt.step (s : Step α H α' H') (h : RolAt K α H p xs) : RolAt K α' H' p xs := by
 rcases h with ⟨h | ⟨o, h⟩, n⟩ | h
 · exact .inl ⟨.inl (s.pr _ _ h n), s.out h n⟩
 · exact .inl ⟨.inr ⟨o, s.pr _ _ h n⟩, s.out h n⟩
 · exact .inr h
end
mutual
inductive Rep (K : PySem.W.Frag) (α : List Addr) (H : Hp) : D → V → Prop
 | non : Rep K α H .non .non
 | bl (b : Bool) : Rep K α H (.bl b) (.bl b)
 | int (i : Int) : Rep K α H (.int i) (.int i)
 | str (x : Str) : Rep K α H (.str x) (.str x)
 | raw (v : V) : Rep K α H (.raw v) v
 | adr {i : Nat} {a : Addr} : α[i]? = some a → Rep K α H (.adr i) (.ref a)
 | tup {p : Addr} {xs : List V} {ds : List D} : TupAt K α H p xs → RepL K α H ds xs → Rep K α H (.tup ds) (.ref p)
 | lst {p : Addr} {xs : List V} {ds : List D} : LstAt α H p xs → RepL K α H ds xs → Rep K α H (.lst ds) (.ref p)
 | rol {p : Addr} {xs : List V} {ds : List D} : RolAt K α H p xs → RepL K α H ds xs → Rep K α H (.rol ds) (.ref p)
 | xcp {a dd : Addr} {ns : List Str} {ds : List D} {vs : List V} : H dd = some (.xd (ns.zip vs)) → dd ∉ α → RepL K α H ds vs → Rep K α H (.xcp a dd ns ds) (.ref a)
 | rod {p : Addr} {ks : List Key} {ds : List D} {vs : List V} : H p = some (.dK (ks.zip vs)) → p ∉ α → RepL K α H ds vs → Rep K α H (.rod ks ds) (.ref p)
 | rot {p : Addr} {ks : List (List Key)} {ds : List D} {vs : List V} : H p = some (.dT (ks.zip vs)) → p ∉ α → RepL K α H ds vs → Rep K α H (.rot ks ds) (.ref p)
inductive RepL (K : PySem.W.Frag) (α : List Addr) (H : Hp) : List D → List V → Prop
 | nil : RepL K α H [] []
 | cons {d : D} {ds : List D} {v : V} {vs : List V} : Rep K α H d v → RepL K α H ds vs → RepL K α H (d :: ds) (v :: vs)
end
section
variable {K : PySem.W.Frag} {α α' α'' : List Addr} {H H' H'' : Hp} {p a : Addr}
mutual
theorem Rep.step (s : Step α H α' H') : ∀ (d : D) (v : V), Rep K α H d v → Rep K α' H' d v
 | .non, _, h => by cases h; exact .non
 | .bl b, _, h => by cases h; exact .bl b
 | .int i, _, h => by cases h; exact .int i
 | .str x, _, h => by cases h; exact .str x
 | .raw v, _, h => by cases h; exact .raw v
 | .adr i, _, h => by
  cases h with
  | adr e =>
   obtain ⟨β, q, _⟩ := s.ext
   refine .adr ?_
   rw [q, List.getElem?_append_left (List.getElem?_eq_some_iff.mp e).1]
   exact e
 | .tup ds, _, h => by
  cases h with
  | tup t r => exact .tup (t.step s) (RepL.step s ds _ r)
 | .lst ds, _, h => by
  cases h with
  | lst t r => exact .lst (t.step s) (RepL.step s ds _ r)
 | .rol ds, _, h => by
  cases h with
  | rol t r => exact .rol (t.step s) (RepL.step s ds _ r)
 | .xcp a dd ns ds, _, h => by
  cases h with
  | xcp e n r => exact .xcp (s.pr _ _ e n) (s.out e n) (RepL.step s ds _ r)
 | .rod ks ds, _, h => by
  cases h with
  | rod e n r => exact .rod (s.pr _ _ e n) (s.out e n) (RepL.step s ds _ r)
 | .rot ks ds, _, h => by
  cases h with
  | rot e n r => exact .rot (s.pr _ _ e n) (s.out e n) (RepL.step s ds _ r)
theorem RepL.step (s : Step α H α' H') : ∀ (ds : List D) (vs : List V), RepL K α H ds vs → RepL K α' H' ds vs
 | [], _, h => by cases h; exact .nil
 | d :: ds, _, h => by
  cases h with
  | cons r t => exact .cons (Rep.step s d _ r) (RepL.step s ds _ t)
end
theorem RepL.length : ∀ {ds : List D} {vs : List V}, RepL K α H ds vs → ds.length = vs.length
 | _, _, .nil => rfl
 | _, _, .cons _ t => by rw [List.length_cons, List.length_cons, RepL.length t]
theorem RepL.get : ∀ {ds : List D} {vs : List V} {i : Nat} {d : D}, RepL K α H ds vs → ds[i]? = some d → ∃ v, vs[i]? = some v ∧ Rep K α H d v
 | _, _, _, _, .nil, e => by simp at e
 | _, _, 0, _, .cons r _, e => by simp at e; subst e; exact ⟨_, rfl, r⟩
 | _, _, i + 1, d, .cons _ t, e => by
  obtain ⟨v, h1, h2⟩ := RepL.get (i := i) (d := d) t (by simpa using e)
  exact ⟨v, by simpa using h1, h2⟩
theorem RepL.append : ∀ {ds es : List D} {vs ws : List V}, RepL K α H ds vs → RepL K α H es ws → RepL K α H (ds ++ es) (vs ++ ws)
 | _, _, _, _, .nil, s => s
 | _, _, _, _, .cons r t, s => .cons r (RepL.append t s)
theorem RepL.take : ∀ {ds : List D} {vs : List V} (n : Nat), RepL K α H ds vs → RepL K α H (ds.take n) (vs.take n)
 | _, _, 0, _ => .nil
 | _, _, _ + 1, .nil => .nil
 | _, _, n + 1, .cons r t => .cons r (RepL.take n t)
theorem RepL.drop : ∀ {ds : List D} {vs : List V} (n : Nat), RepL K α H ds vs → RepL K α H (ds.drop n) (vs.drop n)
 | _, _, 0, r => r
 | _, _, _ + 1, .nil => .nil
 | _, _, n + 1, .cons _ t => RepL.drop n t
theorem RepL.set {d : D} {v : V} (r : Rep K α H d v) : ∀ {ds : List D} {vs : List V} (i : Nat), RepL K α H ds vs → RepL K α H (ds.set i d) (vs.set i v)
 | _, _, _, .nil => .nil
 | _, _, 0, .cons _ t => .cons r t
 | _, _, i + 1, .cons q t => .cons q (RepL.set r i t)
inductive DL (K : PySem.W.Frag) (α : List Addr) (H : Hp) : List (Key × D) → List (Key × V) → Prop
 | nil : DL K α H [] []
 | cons {k : Key} {d : D} {v : V} {r : List (Key × D)} {s : List (Key × V)} : Rep K α H d v → DL K α H r s → DL K α H ((k, d) :: r) ((k, v) :: s)
theorem DL.step (s : Step α H α' H') : ∀ {r : List (Key × D)} {q : List (Key × V)}, DL K α H r q → DL K α' H' r q
 | _, _, .nil => .nil
 | _, _, .cons h t => .cons (Rep.step s _ _ h) (DL.step s t)
theorem DL.length : ∀ {r : List (Key × D)} {q : List (Key × V)}, DL K α H r q → r.length = q.length
 | _, _, .nil => rfl
 | _, _, .cons _ t => by rw [List.length_cons, List.length_cons, t.length]
def KyA (K : PySem.W.Frag) (α : List Addr) (H : Hp) (p : Addr) (xs : List V) : Prop := (Rd H p (.tup xs) ∧ p ∉ α) ∨ SqT K K0 p xs
theorem KyA.sq {p : Addr} {xs : List V} (h : KyA K α H p xs) : SqT K H p xs := by
 rcases h with h | h
 · exact .inl h.1
 · rcases h with h | h
   · exact (rd0 h).elim
   · exact .inr h
theorem KyA.step (s : Step α H α' H') {p : Addr} {xs : List V} (h : KyA K α H p xs) : KyA K α' H' p xs := by
 rcases h with ⟨h | ⟨o, h⟩, n⟩ | h
 · exact .inl ⟨.inl (s.pr _ _ h n), s.out h n⟩
 · exact .inl ⟨.inr ⟨o, s.pr _ _ h n⟩, s.out h n⟩
 · exact .inr h
inductive DU (K : PySem.W.Frag) (α : List Addr) (H : Hp) : List (List Key × D) → List (List Key × Addr × V) → Prop
 | nil : DU K α H [] []
 | cons {k : List Key} {b : Addr} {d : D} {v : V} {r : List (List Key × D)} {s : List (List Key × Addr × V)} : KyA K α H b (k.map kV) → Rep K α H d v → DU K α H r s → DU K α H ((k, d) :: r) ((k, b, v) :: s)
theorem DU.step (s : Step α H α' H') : ∀ {r : List (List Key × D)} {q : List (List Key × Addr × V)}, DU K α H r q → DU K α' H' r q
 | _, _, .nil => .nil
 | _, _, .cons y h t => .cons (y.step s) (Rep.step s _ _ h) (DU.step s t)
theorem DU.length : ∀ {r : List (List Key × D)} {q : List (List Key × Addr × V)}, DU K α H r q → r.length = q.length
 | _, _, .nil => rfl
 | _, _, .cons _ _ t => by rw [List.length_cons, List.length_cons, DU.length t]
def ErrR (K : PySem.W.Frag) (α : List Addr) (H : Hp) (a C : Addr) (fs : List (Str × D)) : Prop := (fs = [] ∧ H a = some (exo a C none)) ∨ ∃ (d : Addr) (vs : List V), H a = some (exo a C (some d)) ∧ H d = some (exd d ((fs.map (·.1)).zip vs)) ∧ d ∉ α ∧ RepL K α H (fs.map (·.2)) vs
theorem ErrR.step (s : Step α H α' H') {C : Addr} {fs : List (Str × D)} (e : ∀ o, H a = some o → H' a = some o) (h : ErrR K α H a C fs) : ErrR K α' H' a C fs := by
 rcases h with ⟨h1, h2⟩ | ⟨d, vs, h1, h2, h3, h4⟩
 · exact .inl ⟨h1, e _ h2⟩
 · exact .inr ⟨d, vs, e _ h1, s.pr _ _ h2 h3, s.out h2 h3, RepL.step s _ _ h4⟩
def ObR (K : PySem.W.Frag) (α : List Addr) (H : Hp) (a : Addr) : MO → Prop
 | .lst ds => ∃ vs, H a = some (.lst vs) ∧ RepL K α H ds vs
 | .ins C fs => ∃ dx vs, H a = some (.ins C dx ((fs.map (·.1)).zip vs)) ∧ RepL K α H (fs.map (·.2)) vs
 | .dct kvs => ∃ q, H a = some (.dK q) ∧ DL K α H kvs q
 | .dcu P w kvs => ∃ q, H a = some (DkO P w a q) ∧ DU K α H kvs q
 | .err C _ fs => ErrR K α H a C fs
theorem ObR.there {m : MO} (h : ObR K α H a m) : ∃ o, H a = some o := by
 cases m with
 | lst ds => obtain ⟨vs, e, _⟩ := h; exact ⟨_, e⟩
 | ins C fs => obtain ⟨dx, vs, e, _⟩ := h; exact ⟨_, e⟩
 | dct kvs => obtain ⟨q, e, _⟩ := h; exact ⟨_, e⟩
 | dcu P w kvs => obtain ⟨q, e, _⟩ := h; exact ⟨_, e⟩
 | err C n fs => rcases h with ⟨_, e⟩ | ⟨_, _, e, _⟩ <;> exact ⟨_, e⟩
structure Wd (K : PySem.W.Frag) (α : List Addr) (M : PM) (H : Hp) : Prop where
 nd : α.Nodup
 len : α.length = M.length
 ob : ∀ (i : Nat) (m : MO), M[i]? = some m → ∃ a, α[i]? = some a ∧ ObR K α H a m
theorem Wd.there {M : PM} (w : Wd K α M H) {b : Addr} (h : b ∈ α) : ∃ o, H b = some o := by
 obtain ⟨i, hi, e⟩ := List.mem_iff_getElem.mp h
 have hm : i < M.length := by rw [← w.len]; exact hi
 obtain ⟨a, e1, o1⟩ := w.ob i M[i] (List.getElem?_eq_getElem hm)
 have : α[i]? = some b := by rw [List.getElem?_eq_getElem hi, e]
 rw [this] at e1
 cases e1
 exact o1.there
theorem Step.tr {M' : PM} (s : Step α H α' H') (w : Wd K α' M' H') (t : Step α' H' α'' H'') : Step α H α'' H'' := s.trans t fun b hb _ => by
 obtain ⟨β, e, _⟩ := s.ext
 obtain ⟨o, ho⟩ := w.there (b := b) (by rw [e]; exact List.mem_append_left _ hb)
 rw [ho]
 exact fun q => nomatch q
theorem Step.ex {α : List Addr} (h : ∀ a o, H a = some o → H' a = some o) : Step α H α H' := ⟨⟨[], by simp, fun _ h => by cases h⟩, fun a o e _ => h a o e⟩
theorem Wd.ex {M : PM} (w : Wd K α M H) (h : ∀ a o, H a = some o → H' a = some o) : Wd K α M H' := by
 refine ⟨w.nd, w.len, fun i m e => ?_⟩
 obtain ⟨a, e1, o1⟩ := w.ob i m e
 refine ⟨a, e1, ?_⟩
 cases m with
 | lst ds => obtain ⟨vs, q, r⟩ := o1; exact ⟨vs, h _ _ q, RepL.step (Step.ex h) _ _ r⟩
 | ins C fs => obtain ⟨dx, vs, q, r⟩ := o1; exact ⟨dx, vs, h _ _ q, RepL.step (Step.ex h) _ _ r⟩
 | dct kvs => obtain ⟨vs, q, r⟩ := o1; exact ⟨vs, h _ _ q, DL.step (Step.ex h) r⟩
 | dcu P w kvs => obtain ⟨vs, q, r⟩ := o1; exact ⟨vs, h _ _ q, DU.step (Step.ex h) r⟩
 | err C n fs => exact ErrR.step (Step.ex h) (fun o q => h _ _ q) o1
theorem ex_new {o : HO} (h : H p = none) : ∀ a u, H a = some u → upd H p o a = some u := fun a u e => by
 rw [upd_ne (ne_of_none e h)]
 exact e
theorem Wd.put {M : PM} {i : Nat} {m : MO} {o : HO} (w : Wd K α M H) (ha : α[i]? = some a) (hi : i < M.length) (hr : ∀ H', Step α H α H' → H' a = some o → ObR K α H' a m) :
 Wd K α (M.set i m) (upd H a o) ∧ Step α H α (upd H a o) := by
 have hm : a ∈ α := List.mem_of_getElem? ha
 have st : Step α H α (upd H a o) := ⟨⟨[], by simp, fun _ h => by cases h⟩, fun b u e n => by rw [upd_ne (fun z => n (by rw [z]; exact hm))]; exact e⟩
 refine ⟨⟨w.nd, by rw [List.length_set]; exact w.len, fun j n e => ?_⟩, st⟩
 by_cases hij : i = j
 · subst hij
   rw [List.getElem?_set_self hi] at e
   cases e
   exact ⟨a, ha, hr _ st upd_same⟩
 · rw [List.getElem?_set_ne hij] at e
   obtain ⟨b, e1, o1⟩ := w.ob j n e
   have hb : b ≠ a := fun z => by
    subst z
    have h1 := (List.getElem?_eq_some_iff.mp ha)
    have h2 := (List.getElem?_eq_some_iff.mp e1)
    exact hij ((List.getElem_inj w.nd).mp (h1.2.trans h2.2.symm))
   refine ⟨b, e1, ?_⟩
   cases n with
   | lst ds => obtain ⟨vs, q, r⟩ := o1; exact ⟨vs, by rw [upd_ne hb]; exact q, RepL.step st _ _ r⟩
   | ins C fs => obtain ⟨dx, vs, q, r⟩ := o1; exact ⟨dx, vs, by rw [upd_ne hb]; exact q, RepL.step st _ _ r⟩
   | dct kvs => obtain ⟨vs, q, r⟩ := o1; exact ⟨vs, by rw [upd_ne hb]; exact q, DL.step st r⟩
   | dcu P w kvs => obtain ⟨vs, q, r⟩ := o1; exact ⟨vs, by rw [upd_ne hb]; exact q, DU.step st r⟩
   | err C n fs => exact ErrR.step st (fun o q => by rw [upd_ne hb]; exact q) o1
theorem Wd.new {M : PM} {m : MO} {o : HO} (w : Wd K α M H) (hn : H a = none) (hr : ∀ H', Step α H (α ++ [a]) H' → H' a = some o → ObR K (α ++ [a]) H' a m) :
 Wd K (α ++ [a]) (M ++ [m]) (upd H a o) ∧ Step α H (α ++ [a]) (upd H a o) := by
 have st : Step α H (α ++ [a]) (upd H a o) := ⟨⟨[a], rfl, fun b h => by rw [List.mem_singleton.mp h]; exact hn⟩, fun b u e _ => ex_new hn b u e⟩
 have na : a ∉ α := fun h => by
  obtain ⟨o, e⟩ := w.there h
  rw [hn] at e
  cases e
 refine ⟨⟨List.nodup_append.mpr ⟨w.nd, by simp, fun x hx y hy z => na (by rw [List.mem_singleton.mp hy] at z; rw [← z]; exact hx)⟩, by simp [w.len], fun j n e => ?_⟩, st⟩
 by_cases hj : j < M.length
 · rw [List.getElem?_append_left hj] at e
   obtain ⟨b, e1, o1⟩ := w.ob j n e
   have hb : b ≠ a := fun z => na (by rw [← z]; exact List.mem_of_getElem? e1)
   refine ⟨b, by rw [List.getElem?_append_left (List.getElem?_eq_some_iff.mp e1).1]; exact e1, ?_⟩
   cases n with
   | lst ds => obtain ⟨vs, q, r⟩ := o1; exact ⟨vs, by rw [upd_ne hb]; exact q, RepL.step st _ _ r⟩
   | ins C fs => obtain ⟨dx, vs, q, r⟩ := o1; exact ⟨dx, vs, by rw [upd_ne hb]; exact q, RepL.step st _ _ r⟩
   | dct kvs => obtain ⟨vs, q, r⟩ := o1; exact ⟨vs, by rw [upd_ne hb]; exact q, DL.step st r⟩
   | dcu P w kvs => obtain ⟨vs, q, r⟩ := o1; exact ⟨vs, by rw [upd_ne hb]; exact q, DU.step st r⟩
   | err C n fs => exact ErrR.step st (fun o q => by rw [upd_ne hb]; exact q) o1
 · have ej : j = M.length := by
    have := (List.getElem?_eq_some_iff.mp e).1
    rw [List.length_append] at this
    simp at this
    omega
   subst ej
   rw [List.getElem?_append_right (Nat.le_refl _), Nat.sub_self] at e
   have e2 : m = n := Option.some.inj e
   subst e2
   exact ⟨a, by rw [← w.len, List.getElem?_append_right (Nat.le_refl _), Nat.sub_self]; rfl, hr _ st upd_same⟩
def EnvR (K : PySem.W.Frag) (α : List Addr) (H : Hp) (ρ : Rho) (σ : St) : Prop := ρ.length = σ.length ∧ ∀ (i : Nat) (d : D), ρ[i]? = some (some d) → ∃ v, σ[i]? = some (some v) ∧ Rep K α H d v
theorem EnvR.step {ρ : Rho} {σ : St} (e : EnvR K α H ρ σ) (s : Step α H α' H') : EnvR K α' H' ρ σ := ⟨e.1, fun i d h => by
 obtain ⟨v, h1, h2⟩ := e.2 i d h
 exact ⟨v, h1, Rep.step s _ _ h2⟩⟩
theorem EnvR.set {ρ : Rho} {σ : St} {i : Nat} {d : D} {v : V} (e : EnvR K α H ρ σ) (r : Rep K α H d v) : EnvR K α H (ρ.set i (some d)) (σ.set i (some v)) := by
 refine ⟨by rw [List.length_set, List.length_set]; exact e.1, fun j d' h => ?_⟩
 by_cases hij : i = j
 · subst hij
   by_cases hl : i < ρ.length
   · rw [List.getElem?_set_self hl] at h
     have : d = d' := Option.some.inj (Option.some.inj h)
     subst this
     exact ⟨v, by rw [List.getElem?_set_self (by rw [← e.1]; exact hl)], r⟩
   · rw [List.set_eq_of_length_le (by omega)] at h
     exact absurd (List.getElem?_eq_some_iff.mp h).1 hl
 · rw [List.getElem?_set_ne hij] at h
   obtain ⟨v', h1, h2⟩ := e.2 j d' h
   exact ⟨v', by rw [List.getElem?_set_ne hij]; exact h1, h2⟩
def XRep (K : PySem.W.Frag) (α : List Addr) (H : Hp) : Option (List (Str × D)) → Option Addr → Prop
 | none, od => od = none
 | some fs, od => ∃ (dd : Addr) (vs : List V), od = some dd ∧ H dd = some (.xd ((fs.map (·.1)).zip vs)) ∧ dd ∉ α ∧ RepL K α H (fs.map (·.2)) vs
def Post {A B : Type} (R : List Addr → Hp → A → B → Prop) (K : PySem.W.Frag) (α : List Addr) (H : Hp) (Q : B → Hp → Prop) (E : XK) : Out A → Prop
 | .ok a M' => ∀ b α' H', Step α H α' H' → Wd K α' M' H' → R α' H' a b → Q b H'
 | .exn c fs M' => ∀ od α' H', Step α H α' H' → Wd K α' M' H' → XRep K α' H' fs od → E c od H'
 | .bad => False
theorem Post.step {A B : Type} {R : List Addr → Hp → A → B → Prop} {Q : B → Hp → Prop} {E : XK} {M : PM} {o : Out A} (h : Post R K α H Q E o) (s : Step α H α' H') (w : Wd K α' M H') : Post R K α' H' Q E o := by
 cases o with
 | ok a M' => exact fun b β G t x r => h b β G (s.tr w t) x r
 | exn c fs M' => exact fun od β G t x r => h od β G (s.tr w t) x r
 | bad => exact h
def RX {A B : Type} (R : List Addr → Hp → A → B → Prop) (K : PySem.W.Frag) (E : XK) (t : St → Hp → (B → Hp → Prop) → Prop) (f : Rho → PM → Out A) : Prop :=
 ∀ ρ σ H α M Q, EnvR K α H ρ σ → Wd K α M H → Post R K α H Q E (f ρ M) → t σ H Q
abbrev RE (K : PySem.W.Frag) (E : XK) (t : TE) (f : Rho → PM → Out D) : Prop := RX (Rep K) K E t f
abbrev RT (K : PySem.W.Frag) (E : XK) (t : TT) (f : Rho → PM → Out Bool) : Prop := RX (fun _ _ a b => a = b) K E t f
abbrev RA (K : PySem.W.Frag) (E : XK) (t : TA) (f : Rho → PM → Out (List D)) : Prop := RX (RepL K) K E t f
theorem bnd {A B A' B' : Type} {R : List Addr → Hp → A → B → Prop} {R' : List Addr → Hp → A' → B' → Prop} {Q : B' → Hp → Prop} {E : XK} {o : Out A} {g : A → PM → Out A'} {C : B → Hp → Prop}
 (hp : Post R' K α H Q E (o.bind g)) (k : ∀ a M' b α' H', o = .ok a M' → Step α H α' H' → Wd K α' M' H' → R α' H' a b → Post R' K α' H' Q E (g a M') → C b H') : Post R K α H C E o := by
 cases o with
 | ok a M' => exact fun b α' H' s w r => k a M' b α' H' rfl s w r (Post.step hp s w)
 | exn c fs M' => exact hp
 | bad => exact hp
end
end Pd
namespace Pd
open PySem L2
abbrev FE := Rho → PM → Out D
abbrev FT := Rho → PM → Out Bool
abbrev FA := Rho → PM → Out (List D)
inductive Fl where
 | nx (ρ : Rho) | rt (d : D) | bk (ρ : Rho) | ct (ρ : Rho)
abbrev FS := Rho → PM → Out Fl
abbrev FG := D → Rho → PM → Out Rho
def pVar (i : Nat) : FE := fun ρ M => match ρ[i]? with | some (some d) => .ok d M | _ => .bad
def pC (d : D) : FE := fun _ M => .ok d M
def pOp (g : PM → D → D → Out D) (fa fb : FE) : FE := fun ρ M => (fa ρ M).bind fun a M1 => (fb ρ M1).bind fun b M2 => g M2 a b
def asB : D → PM → Out Bool
 | .bl b, M => .ok b M
 | _, _ => .bad
def pTest (fa : FE) : FT := fun ρ M => (fa ρ M).bind asB
def pOr (f g : FT) : FT := fun ρ M => (f ρ M).bind fun b M1 => if b = true then .ok true M1 else g ρ M1
def pNot (f : FT) : FT := fun ρ M => (f ρ M).bind fun b M1 => .ok (!b) M1
def pAndV (f g : FE) : FE := fun ρ M => (f ρ M).bind fun a M1 => (asB a M1).bind fun b M1 => if b = true then g ρ M1 else .ok (.bl false) M1
def aNil : FA := fun _ M => .ok [] M
def aCons (f : FE) (g : FA) : FA := fun ρ M => (f ρ M).bind fun a M1 => (g ρ M1).bind fun as M2 => .ok (a :: as) M2
abbrev line : Nat := 16777216
def pTup (f : FA) : FE := fun ρ M => (f ρ M).bind fun as M1 => if as.length ≤ line then .ok (.tup as) M1 else .bad
def pLst (f : FA) : FE := fun ρ M => (f ρ M).bind fun as M1 => if as.length ≤ line then .ok (.lst as) M1 else .bad
def pNew (f : FA) : FE := fun ρ M => (f ρ M).bind fun as M1 => if as.length ≤ line then .ok (.adr M1.length) (M1 ++ [.lst as]) else .bad
def pCall (Φ : List D → PM → Out D) (f : FA) : FE := fun ρ M => (f ρ M).bind Φ
def pCB (g : PM → List D → Out D) (f : FA) : FE := fun ρ M => (f ρ M).bind fun as M1 => g M1 as
def gor (g g' : PM → D → D → Out D) : PM → D → D → Out D := fun M a b => match g M a b with | .bad => g' M a b | o => o
def sNext : FS := fun ρ M => .ok (.nx ρ) M
def sSeq (f g : FS) : FS := fun ρ M => (f ρ M).bind fun fl M1 => match fl with | .nx ρ' => g ρ' M1 | fl => .ok fl M1
def sAsg (f : FE) (g : FG) : FS := fun ρ M => (f ρ M).bind fun d M1 => (g d ρ M1).bind fun ρ' M2 => .ok (.nx ρ') M2
def sRet (f : FE) : FS := fun ρ M => (f ρ M).bind fun d M1 => .ok (.rt d) M1
def sIf (c : FT) (f g : FS) : FS := fun ρ M => (c ρ M).bind fun b M1 => if b = true then f ρ M1 else g ρ M1
def fName (i : Nat) : FG := fun d ρ M => .ok (ρ.set i (some d)) M
def putL (M : PM) (o i v : D) : Out Unit := match o, i with
 | .adr k, .int j => match M[k]? with
  | some (.lst ds) => match ixN ds.length j with
   | some n => .ok () (M.set k (.lst (ds.set n v)))
   | none => .bad
  | _ => .bad
 | _, _ => .bad
def fSub (fo fi : FE) : FG := fun d ρ M => (fo ρ M).bind fun o M1 => (fi ρ M1).bind fun i M2 => (putL M2 o i d).bind fun _ M3 => .ok ρ M3
def sEach (g : FG) (b : FS) : List D → FS
 | [], ρ, M => .ok (.nx ρ) M
 | d :: ds, ρ, M => (g d ρ M).bind fun ρ1 M1 => (b ρ1 M1).bind fun fl M2 => match fl with
  | .nx ρ' => sEach g b ds ρ' M2
  | .ct ρ' => sEach g b ds ρ' M2
  | .bk ρ' => .ok (.nx ρ') M2
  | .rt d => .ok (.rt d) M2
def sFor (w : FA) (g : FG) (b : FS) : FS := fun ρ M => (w ρ M).bind fun ds M1 => sEach g b ds ρ M1
inductive FlV where
 | nx (σ : St) | rt (v : V) | bk (σ : St) | ct (σ : St)
def FlR (K : PySem.W.Frag) (α : List Addr) (H : Hp) : Fl → FlV → Prop
 | .nx ρ, .nx σ => EnvR K α H ρ σ
 | .rt d, .rt v => Rep K α H d v
 | .bk ρ, .bk σ => EnvR K α H ρ σ
 | .ct ρ, .ct σ => EnvR K α H ρ σ
 | _, _ => False
def endQ (D : Ends) : FlV → Hp → Prop
 | .nx σ, H => D.nx σ H
 | .rt v, H => D.rt v H
 | .bk σ, H => D.bk σ H
 | .ct σ, H => D.ct σ H
def RS (K : PySem.W.Frag) (E : XK) (t : TS) (f : FS) : Prop :=
 ∀ ρ σ H α M D, EnvR K α H ρ σ → Wd K α M H → Post (FlR K) K α H (endQ D) E (f ρ M) → t D σ H
def RG (K : PySem.W.Frag) (E : XK) (g : TG) (f : FG) : Prop :=
 ∀ ρ σ H α M d v Q, EnvR K α H ρ σ → Wd K α M H → Rep K α H d v → Post (EnvR K) K α H Q E (f d ρ M) → g v σ H Q
def ItR (K : PySem.W.Frag) (α : List Addr) (H : Hp) (ds : List D) (J : It) : Prop :=
 ∀ α' H', Step α H α' H' → (∀ b ∈ α', ∃ o, H' b = some o) → ∀ i : Nat, (∀ d, ds[i]? = some d → J.go i H' ∧ ∀ x H'', J.yld i H' x H'' → (∀ a o, H' a = some o → H'' a = some o) ∧ Rep K α' H'' d x) ∧ (ds.length ≤ i → J.stop i H')
abbrev RI (K : PySem.W.Frag) (E : XK) (t : TI) (f : FA) : Prop := RX (ItR K) K E t f
def OpD (K : PySem.W.Frag) (E : XK) (r : R2) (g : PM → D → D → Out D) : Prop :=
 ∀ α H M a b x y Q, Wd K α M H → Rep K α H a x → Rep K α H b y → Post (Rep K) K α H Q E (g M a b) → r x y H Q
def CbD (K : PySem.W.Frag) (E : XK) (r : List V → Hp → VK → Prop) (g : PM → List D → Out D) : Prop :=
 ∀ α H M as xs Q, Wd K α M H → RepL K α H as xs → Post (Rep K) K α H Q E (g M as) → r xs H Q
section
variable {K : PySem.W.Frag} {E : XK} {ta tb te : TE} {fa fb fe : FE} {t u : TT} {f g : FT}
theorem line_eq : line = sizeLine := by rw [sizeLine_eq]
theorem Post.now {A B : Type} {R : List Addr → Hp → A → B → Prop} {α : List Addr} {H : Hp} {Q : B → Hp → Prop} {a : A} {b : B} {M : PM} (h : Post R K α H Q E (.ok a M)) (w : Wd K α M H) (r : R α H a b) : Q b H := h b α H (Step.refl _ _) w r
theorem Post.nowX {A B : Type} {R : List Addr → Hp → A → B → Prop} {α : List Addr} {H H' : Hp} {Q : B → Hp → Prop} {a : A} {b : B} {M : PM} (h : Post R K α H Q E (.ok a M)) (w : Wd K α M H) (x : ∀ a o, H a = some o → H' a = some o) (r : R α H' a b) : Q b H' := h b α H' (Step.ex x) (w.ex x) r
theorem r_var {i : Nat} : RE K E (tVar i) (pVar i) := by
 intro ρ σ H α M Q e w h
 unfold pVar at h
 split at h
 · rename_i d hd
   obtain ⟨v, h1, h2⟩ := e.2 i d hd
   exact ⟨v, h1, h.now w h2⟩
 · exact h.elim
theorem r_c {d : D} {v : V} (r : ∀ α H, Rep K α H d v) : RE K E (tC v) (pC d) := fun ρ σ H α M Q e w h => h.now w (r α H)
theorem r_op {r : R2} {g : PM → D → D → Out D} (ha : RE K E ta fa) (hb : RE K E tb fb) (ho : OpD K E r g) : RE K E (tOp r ta tb) (pOp g fa fb) := fun ρ σ H α M Q e w h =>
 ha ρ σ H α M _ e w (bnd h fun a M1 x α1 H1 _ s1 w1 r1 h1 => hb ρ σ H1 α1 M1 _ (e.step s1) w1 (bnd h1 fun b M2 y α2 H2 _ s2 w2 r2 h2 => ho α2 H2 M2 a b x y Q w2 (Rep.step s2 _ _ r1) r2 h2))
theorem asB_ok {α : List Addr} {H : Hp} {a : D} {x : V} {M : PM} {A B : Type} {R : List Addr → Hp → A → B → Prop} {Q : B → Hp → Prop} {g : Bool → PM → Out A} (r : Rep K α H a x) (h : Post R K α H Q E ((asB a M).bind g)) : ∃ b, a = .bl b ∧ x = .bl b ∧ Post R K α H Q E (g b M) := by
 cases a with
 | bl b => cases r; exact ⟨b, rfl, rfl, h⟩
 | _ => exact h.elim
theorem r_test (ha : RE K E te fe) : RT K E (tTest te) (pTest fe) := fun ρ σ H α M Q e w h =>
 ha ρ σ H α M _ e w (bnd h fun a M1 x α1 H1 _ s1 w1 r1 h1 => by
  cases a with
  | bl b => cases r1; exact ⟨b, rfl, h1.now w1 rfl⟩
  | _ => exact h1.elim)
theorem r_tB (ha : RE K E te fe) : RT K E (tB te) (pTest fe) := r_test ha
theorem r_or (h1 : RT K E t f) (h2 : RT K E u g) : RT K E (tOr t u) (pOr f g) := fun ρ σ H α M Q e w h =>
 h1 ρ σ H α M _ e w (bnd h fun b M1 x α1 H1 _ s1 w1 r1 q => by
  subst r1
  cases b with
  | true => rw [if_pos rfl] at q ⊢; exact q.now w1 rfl
  | false => rw [if_neg Bool.false_ne_true] at q ⊢; exact h2 ρ σ H1 α1 M1 Q (e.step s1) w1 q)
theorem r_not (h1 : RT K E t f) : RT K E (tNot t) (pNot f) := fun ρ σ H α M Q e w h =>
 h1 ρ σ H α M _ e w (bnd h fun b M1 x α1 H1 _ s1 w1 r1 q => by
  subst r1
  exact q.now w1 rfl)
theorem r_andV (h1 : RE K E ta fa) (h2 : RE K E tb fb) : RE K E (tAndV ta tb) (pAndV fa fb) := fun ρ σ H α M Q e w h =>
 h1 ρ σ H α M _ e w (bnd h fun a M1 x α1 H1 _ s1 w1 r1 q => by
  obtain ⟨b, rfl, rfl, q⟩ := asB_ok r1 q
  refine ⟨b, rfl, ?_⟩
  cases b with
  | true => rw [if_pos rfl] at q ⊢; exact h2 ρ σ H1 α1 M1 Q (e.step s1) w1 q
  | false => rw [if_neg Bool.false_ne_true] at q ⊢; exact q.now w1 (.bl false))
theorem r_nil : RA K E tNil aNil := fun ρ σ H α M Q e w h => h.now w .nil
theorem r_cons {tr : TA} {fr : FA} (ha : RE K E ta fa) (hr : RA K E tr fr) : RA K E (tCons ta tr) (aCons fa fr) := fun ρ σ H α M Q e w h =>
 ha ρ σ H α M _ e w (bnd h fun a M1 x α1 H1 _ s1 w1 r1 h1 => hr ρ σ H1 α1 M1 _ (e.step s1) w1 (bnd h1 fun b M2 y α2 H2 _ s2 w2 r2 h2 => h2.now w2 (.cons (Rep.step s2 _ _ r1) r2)))
theorem new_tup {α : List Addr} {H : Hp} {p : Addr} {o : Obj} {ds : List D} {xs : List V} {M : PM} (w : Wd K α M H) (hp : H p = none) (ho : o.dict = none) (r : RepL K α H ds xs) : Rep K α (upd H p (.frz o (.tup xs))) (.tup ds) (.ref p) :=
 .tup (.inl ⟨⟨o, upd_same, ho⟩, fun h => by
  obtain ⟨o, e⟩ := w.there h
  rw [hp] at e
  cases e⟩) (RepL.step (Step.ex (ex_new hp)) _ _ r)
theorem new_lst {α : List Addr} {H : Hp} {p : Addr} {ds : List D} {xs : List V} {M : PM} (w : Wd K α M H) (hp : H p = none) (r : RepL K α H ds xs) : Rep K α (upd H p (.lst xs)) (.lst ds) (.ref p) :=
 .lst ⟨upd_same, fun h => by
  obtain ⟨o, e⟩ := w.there h
  rw [hp] at e
  cases e⟩ (RepL.step (Step.ex (ex_new hp)) _ _ r)
theorem ifb {A B : Type} {R : List Addr → Hp → A → B → Prop} {α : List Addr} {H : Hp} {Q : B → Hp → Prop} {c : Prop} [Decidable c] {o : Out A} (h : Post R K α H Q E (if c then o else .bad)) : c ∧ Post R K α H Q E o := by
 by_cases hc : c
 · rw [if_pos hc] at h; exact ⟨hc, h⟩
 · rw [if_neg hc] at h; exact h.elim
theorem r_tup {ta : TA} {fa : FA} (ha : RA K E ta fa) : RE K E (tTupX ta) (pTup fa) := fun ρ σ H α M Q e w h =>
 ha ρ σ H α M _ e w (bnd h fun as M1 xs α1 H1 _ s1 w1 r1 q => by
  obtain ⟨hl, q⟩ := ifb q
  rw [r1.length, line_eq] at hl
  exact ⟨hl, fun p o hp ho => q.nowX w1 (ex_new hp) (new_tup w1 hp ho r1)⟩)
theorem r_lst {ta : TA} {fa : FA} (ha : RA K E ta fa) : RE K E (tLst ta) (pLst fa) := fun ρ σ H α M Q e w h =>
 ha ρ σ H α M _ e w (bnd h fun as M1 xs α1 H1 _ s1 w1 r1 q => by
  obtain ⟨hl, q⟩ := ifb q
  rw [r1.length, line_eq] at hl
  exact ⟨hl, fun p hp => q.nowX w1 (ex_new hp) (new_lst w1 hp r1)⟩)
theorem r_new {ta : TA} {fa : FA} (ha : RA K E ta fa) : RE K E (tLst ta) (pNew fa) := fun ρ σ H α M Q e w h =>
 ha ρ σ H α M _ e w (bnd h fun as M1 xs α1 H1 _ s1 w1 r1 q => by
  obtain ⟨hl, q⟩ := ifb q
  rw [r1.length, line_eq] at hl
  refine ⟨hl, fun p hp => ?_⟩
  obtain ⟨w2, s2⟩ := w1.new (m := .lst as) (o := .lst xs) hp fun H' st e => ⟨xs, e, RepL.step st _ _ r1⟩
  exact q _ _ _ s2 w2 (.adr (by rw [← w1.len, List.getElem?_append_right (Nat.le_refl _), Nat.sub_self]; rfl)))
def spP (K : PySem.W.Frag) (Φ : List D → PM → Out D) : Sp := fun vs H Q E => ∃ ds α M, Wd K α M H ∧ RepL K α H ds vs ∧ Post (Rep K) K α H Q E (Φ ds M)
theorem r_call {ta : TA} {fa : FA} {Φ : List D → PM → Out D} (ha : RA K E ta fa) : RE K E (tCall (spP K Φ) [] E ta) (pCall Φ fa) := fun ρ σ H α M Q e w h =>
 ha ρ σ H α M _ e w (bnd h fun as M1 xs α1 H1 _ s1 w1 r1 q => by
  show spP K Φ (xs ++ []) H1 Q E
  rw [List.append_nil]
  exact ⟨as, α1, M1, w1, r1, q⟩)
theorem r_cb {ta : TA} {fa : FA} {r : List V → Hp → VK → Prop} {g : PM → List D → Out D} (ha : RA K E ta fa) (hc : CbD K E r g) : RE K E (tCB r ta) (pCB g fa) := fun ρ σ H α M Q e w h =>
 ha ρ σ H α M _ e w (bnd h fun as M1 xs α1 H1 _ s1 w1 r1 q => hc α1 H1 M1 as xs Q w1 r1 q)
theorem OpD.or {r r' : R2} {g g' : PM → D → D → Out D} (h : OpD K E r g) (h' : OpD K E r' g') : OpD K E (fun x y H Q => r x y H Q ∨ r' x y H Q) (gor g g') := fun α H M a b x y Q w ra rb q => by
 unfold gor at q
 split at q
 · exact .inr (h' α H M a b x y Q w ra rb q)
 · exact .inl (h α H M a b x y Q w ra rb q)
theorem s_next : RS K E tNext sNext := fun ρ σ H α M D e w h => h.now (b := FlV.nx σ) w e
theorem s_seq {t u : TS} {f g : FS} (h1 : RS K E t f) (h2 : RS K E u g) : RS K E (tSeq t u) (sSeq f g) := fun ρ σ H α M D e w h =>
 h1 ρ σ H α M { D with nx := u D } e w (bnd h fun fl M1 b α1 H1 _ s1 w1 r1 q => by
  cases fl with
  | nx ρ' =>
   cases b with
   | nx σ' => exact h2 ρ' σ' H1 α1 M1 D r1 w1 q
   | _ => exact r1.elim
  | rt d =>
   cases b with
   | rt v => exact q.now (b := FlV.rt v) w1 r1
   | _ => exact r1.elim
  | bk ρ' =>
   cases b with
   | bk σ' => exact q.now (b := FlV.bk σ') w1 r1
   | _ => exact r1.elim
  | ct ρ' =>
   cases b with
   | ct σ' => exact q.now (b := FlV.ct σ') w1 r1
   | _ => exact r1.elim)
theorem s_asg {g : TG} {fg : FG} (ha : RE K E te fe) (hg : RG K E g fg) : RS K E (tAsg te g) (sAsg fe fg) := fun ρ σ H α M D e w h =>
 ha ρ σ H α M _ e w (bnd h fun d M1 v α1 H1 _ s1 w1 r1 q => hg ρ σ H1 α1 M1 d v D.nx (e.step s1) w1 r1 (bnd q fun ρ' M2 σ' α2 H2 _ s2 w2 r2 q2 => q2.now (b := FlV.nx σ') w2 r2))
theorem s_ret (ha : RE K E te fe) : RS K E (tRet te) (sRet fe) := fun ρ σ H α M D e w h =>
 ha ρ σ H α M _ e w (bnd h fun d M1 v α1 H1 _ s1 w1 r1 q => q.now (b := FlV.rt v) w1 r1)
theorem s_if {t u : TS} {c : TT} {fc : FT} {f g : FS} (hc : RT K E c fc) (h1 : RS K E t f) (h2 : RS K E u g) : RS K E (tIfS c t u) (sIf fc f g) := fun ρ σ H α M D e w h =>
 hc ρ σ H α M _ e w (bnd h fun b M1 x α1 H1 _ s1 w1 r1 q => by
  subst r1
  cases b with
  | true => rw [if_pos rfl] at q ⊢; exact h1 ρ σ H1 α1 M1 D (e.step s1) w1 q
  | false => rw [if_neg Bool.false_ne_true] at q ⊢; exact h2 ρ σ H1 α1 M1 D (e.step s1) w1 q)
theorem g_name {i : Nat} : RG K E (gName i) (fName i) := fun ρ σ H α M d v Q e w r h => h.now w (e.set r)
theorem put_ok {α : List Addr} {H : Hp} {M : PM} {o i d : D} {x y v : V} {Q : Hp → Prop} (w : Wd K α M H) (ro : Rep K α H o x) (ri : Rep K α H i y) (rv : Rep K α H d v) {A B : Type} {R : List Addr → Hp → A → B → Prop} {C : B → Hp → Prop} {g : Unit → PM → Out A}
 (h : Post R K α H C E ((putL M o i d).bind g)) (k : ∀ M' H', Step α H α H' → Wd K α M' H' → Post R K α H' C E (g () M') → Q H') : rSetL x y v H Q := by
 unfold putL at h
 split at h
 · rename_i n j
   cases ro with
   | adr ha =>
    cases ri
    split at h
    · rename_i ds hm
      split at h
      · rename_i q hq
        obtain ⟨a', e1, vs, e2, e3⟩ := w.ob _ _ hm
        rw [ha] at e1
        cases e1
        refine ⟨_, vs, j, q, rfl, rfl, e2, by rw [← e3.length]; exact hq, ?_⟩
        obtain ⟨w2, s2⟩ := w.put (m := .lst (ds.set q d)) (o := .lst (vs.set q v)) ha (List.getElem?_eq_some_iff.mp hm).1 fun H' st e => ⟨_, e, RepL.step st _ _ (e3.set rv q)⟩
        exact k _ _ s2 w2 (Post.step h s2 w2)
      · exact h.elim
    · exact h.elim
 · exact h.elim
theorem g_sub {to ti : TE} {fo fi : FE} (ho : RE K E to fo) (hi : RE K E ti fi) : RG K E (gSub to ti rSetL) (fSub fo fi) := fun ρ σ H α M d v Q e w r h =>
 ho ρ σ H α M _ e w (bnd h fun o M1 x α1 H1 _ s1 w1 r1 h1 => hi ρ σ H1 α1 M1 _ (e.step s1) w1 (bnd h1 fun i M2 y α2 H2 _ s2 w2 r2 h2 =>
  put_ok w2 (Rep.step s2 _ _ r1) r2 (Rep.step s2 _ _ (Rep.step s1 _ _ r)) h2 fun M' H' s3 w3 q => q.now w3 (((e.step s1).step s2).step s3)))
theorem s_for {wi : TI} {g : TG} {tb : TS} {fw : FA} {fg : FG} {fb : FS} (hi : RI K E wi fw) (hg : RG K E g fg) (hb : RS K E tb fb) : RS K E (tFor wi g tb) (sFor fw fg fb) := fun ρ σ H α M D e w h =>
 hi ρ σ H α M _ e w (bnd h fun ds M1 J α1 H1 _ s1 w1 r1 h1 => by
  refine ⟨fun i m σ H => m = ds.length - i ∧ ∃ ρ α M, EnvR K α H ρ σ ∧ Wd K α M H ∧ Step α1 H1 α H ∧ Post (FlR K) K α H (endQ D) E (sEach fg fb (ds.drop i) ρ M), ⟨ds.length, by simp, ρ, α1, M1, e.step s1, w1, Step.refl _ _, h1⟩, ?_⟩
  rintro i m σ2 H2 ⟨rfl, ρ2, α2, M2, e2, w2, s2, h2⟩
  obtain ⟨go, stop⟩ := r1 α2 H2 s2 (fun _ h => w2.there h) i
  by_cases hi : i < ds.length
  · refine .inr ?_
    rw [List.drop_eq_getElem_cons hi] at h2
    obtain ⟨g1, y1⟩ := go ds[i] (List.getElem?_eq_getElem hi)
    refine ⟨g1, fun σ H => ∃ ρ α M, EnvR K α H ρ σ ∧ Wd K α M H ∧ Step α1 H1 α H ∧ Post (FlR K) K α H (endQ D) E (sEach fg fb (ds.drop (i + 1)) ρ M), fun σ' H' z => ⟨ds.length - (i + 1), by omega, rfl, z⟩, fun x H3 y => ?_⟩
    obtain ⟨x3, r3⟩ := y1 x H3 y
    have s3 : Step α2 H2 α2 H3 := Step.ex x3
    have w3 := w2.ex x3
    have st3 := s2.tr w2 s3
    refine hg ρ2 σ2 H3 α2 M2 _ x _ (e2.step s3) w3 r3 (bnd (Post.step h2 s3 w3) fun ρ4 M4 σ4 α4 H4 _ s4 w4 r4 h4 => ?_)
    refine hb ρ4 σ4 H4 α4 M4 _ r4 w4 (bnd h4 fun fl M5 b α5 H5 _ s5 w5 r5 h5 => ?_)
    have st5 := (st3.tr w3 s4).tr w4 s5
    cases fl with
    | nx ρ' =>
     cases b with
     | nx σ' => exact ⟨ρ', α5, M5, r5, w5, st5, h5⟩
     | _ => exact r5.elim
    | ct ρ' =>
     cases b with
     | ct σ' => exact ⟨ρ', α5, M5, r5, w5, st5, h5⟩
     | _ => exact r5.elim
    | bk ρ' =>
     cases b with
     | bk σ' => exact h5.now (b := FlV.nx σ') w5 r5
     | _ => exact r5.elim
    | rt d =>
     cases b with
     | rt v => exact h5.now (b := FlV.rt v) w5 r5
     | _ => exact r5.elim
  · rw [List.drop_eq_nil_of_le (by omega)] at h2
    exact .inl ⟨stop (by omega), h2.now (b := FlV.nx σ2) w2 e2⟩)
end
end Pd
namespace Pd
open PySem L2
def gII (C : Int → Int → Bool) (h : Int → Int → D) : PM → D → D → Out D := fun M a b => match a, b with
 | .int i, .int j => if C i j = true then .ok (h i j) M else .bad
 | _, _ => .bad
def cTrue (_ _ : Int) : Bool := true
def cMul (i j : Int) : Bool := (decide (-18446744073709551616 < i) && decide (i < 18446744073709551616)) || (decide (-18446744073709551616 < j) && decide (j < 18446744073709551616))
def cDiv (_ j : Int) : Bool := decide (0 < j) && decide (j < 1073741824)
def cDivN (_ j : Int) : Bool := decide (j ≠ 0) && decide (j.natAbs < 1073741824)
def cPos (_ j : Int) : Bool := decide (0 < j)
def cNe (_ j : Int) : Bool := decide (j ≠ 0)
def cPow (i j : Int) : Bool := decide (0 ≤ j) && decide (j ≤ 1000000) && decide (i.natAbs < 18446744073709551616)
def lstOf (M : PM) : D → Option (List D)
 | .lst ds => some ds
 | .adr i => match M[i]? with | some (.lst ds) => some ds | _ => none
 | _ => none
def seqOf (M : PM) : D → Option (List D)
 | .lst ds => some ds
 | .rol ds => some ds
 | .tup ds => some ds
 | .adr i => match M[i]? with | some (.lst ds) => some ds | _ => none
 | _ => none
def gAddS : PM → D → D → Out D := fun M a b => match a, b with
 | .str x, .str y => if x.length + y.length ≤ line then .ok (.str (x ++ y)) M else .bad
 | _, _ => .bad
def gAddT : PM → D → D → Out D := fun M a b => match a, b with
 | .tup x, .tup y => if x.length + y.length ≤ line then .ok (.tup (x ++ y)) M else .bad
 | _, _ => .bad
def gAddL : PM → D → D → Out D := fun M a b => match lstOf M a, lstOf M b with
 | some x, some y => if x.length + y.length ≤ line then .ok (.lst (x ++ y)) M else .bad
 | _, _ => .bad
def gAdd : PM → D → D → Out D := gor (gII cTrue fun i j => .int (i + j)) (gor gAddS (gor gAddT gAddL))
def gSub : PM → D → D → Out D := gII cTrue fun i j => .int (i - j)
def gMul : PM → D → D → Out D := gII cMul fun i j => .int (i * j)
def gFdiv : PM → D → D → Out D := gor (gII cDiv fun i j => .int (i / j)) (gII cDivN fun i j => .int (i.fdiv j))
def gMod : PM → D → D → Out D := gor (gII cPos fun i j => .int (i % j)) (gII cNe fun i j => .int (i.fmod j))
def gPow : PM → D → D → Out D := gII cPow fun i j => .int (i ^ j.toNat)
def gLt : PM → D → D → Out D := gII cTrue fun i j => .bl (decide (i < j))
def gGt : PM → D → D → Out D := gII cTrue fun i j => .bl (decide (j < i))
def gGe : PM → D → D → Out D := gII cTrue fun i j => .bl (decide (j ≤ i))
def isNonD : D → Bool
 | .non => true
 | _ => false
def gIs : PM → D → D → Out D := fun M a b => match b with | .non => .ok (.bl (isNonD a)) M | _ => .bad
def gIsNot : PM → D → D → Out D := fun M a b => match b with | .non => .ok (.bl (!isNonD a)) M | _ => .bad
def gIx : PM → D → D → Out D := fun M a b => match b with
 | .int i => match a with
  | .str z => if z.length ≤ line then match atI z.cps.toList i with | some c => .ok (.str ⟨#[c]⟩) M | none => .bad else .bad
  | a => match seqOf M a with
   | some ds => match atI ds i with | some d => .ok d M | none => .bad
   | none => .bad
 | _ => .bad
section
variable {K : PySem.W.Frag} {E : XK}
theorem od_II {C : Int → Int → Prop} {c : Int → Int → Bool} {h : Int → Int → V} {hD : Int → Int → D} (hc : ∀ i j, c i j = true → C i j) (hr : ∀ α H i j, Rep K α H (hD i j) (h i j)) : OpD K E (rI C h) (gII c hD) := fun α H M a b x y Q w ra rb q => by
 unfold gII at q
 split at q
 · cases ra
   cases rb
   obtain ⟨h1, q⟩ := ifb q
   exact ⟨_, _, rfl, rfl, hc _ _ h1, q.now w (hr α H _ _)⟩
 · exact q.elim
theorem od_II0 {h : Int → Int → V} {hD : Int → Int → D} (hr : ∀ α H i j, Rep K α H (hD i j) (h i j)) : OpD K E (rI0 h) (gII cTrue hD) := fun α H M a b x y Q w ra rb q => by
 unfold gII at q
 split at q
 · cases ra
   cases rb
   obtain ⟨h1, q⟩ := ifb q
   exact ⟨_, _, rfl, rfl, q.now w (hr α H _ _)⟩
 · exact q.elim
theorem lst_ok {α : List Addr} {H : Hp} {M : PM} {a : D} {x : V} {ds : List D} (w : Wd K α M H) (r : Rep K α H a x) (e : lstOf M a = some ds) : ∃ p xs, x = .ref p ∧ H p = some (.lst xs) ∧ RepL K α H ds xs := by
 cases a with
 | lst es =>
  cases e
  cases r with
  | lst t rs => exact ⟨_, _, rfl, t.1, rs⟩
 | adr i =>
  cases r with
  | adr ha =>
   have e' : (match M[i]? with | some (.lst ds) => some ds | _ => none) = some ds := e
   split at e'
   · rename_i ds' hm
     cases e'
     obtain ⟨a', e1, vs, e2, e3⟩ := w.ob _ _ hm
     rw [ha] at e1
     cases e1
     exact ⟨_, _, rfl, e2, e3⟩
   · cases e'
 | _ => cases e
theorem seq_ok {α : List Addr} {H : Hp} {M : PM} {a : D} {x : V} {ds : List D} (w : Wd K α M H) (r : Rep K α H a x) (e : seqOf M a = some ds) : ∃ p xs, x = .ref p ∧ (SqL K H p xs ∨ SqT K H p xs) ∧ RepL K α H ds xs := by
 cases a with
 | lst es =>
  cases e
  cases r with
  | lst t rs => exact ⟨_, _, rfl, .inl t.sq, rs⟩
 | rol es =>
  cases e
  cases r with
  | rol t rs => exact ⟨_, _, rfl, .inl t.sq, rs⟩
 | tup es =>
  cases e
  cases r with
  | tup t rs => exact ⟨_, _, rfl, .inr t.sq, rs⟩
 | adr i =>
  obtain ⟨p, xs, h1, h2, h3⟩ := lst_ok (K := K) (ds := ds) w r (by unfold seqOf at e; unfold lstOf; exact e)
  exact ⟨p, xs, h1, .inl (.of h2), h3⟩
 | _ => cases e
theorem od_addS : OpD K E (fun x y H Q => ∃ i j, x = .str i ∧ y = .str j ∧ i.length + j.length ≤ sizeLine ∧ Q (.str (i ++ j)) H) gAddS := fun α H M a b x y Q w ra rb q => by
 unfold gAddS at q
 split at q
 · cases ra
   cases rb
   obtain ⟨h1, q⟩ := ifb q
   rw [line_eq] at h1
   exact ⟨_, _, rfl, rfl, h1, q.now w (.str _)⟩
 · exact q.elim
theorem od_addT : OpD K E (rCatX K) gAddT := fun α H M a b x y Q w ra rb q => by
 unfold gAddT at q
 split at q
 · cases ra with
   | tup ta rsa =>
    cases rb with
    | tup tb rsb =>
     obtain ⟨h1, q⟩ := ifb q
     rw [line_eq, rsa.length, rsb.length] at h1
     refine ⟨_, _, _, _, rfl, rfl, ta.sq, tb.sq, h1, fun e => ?_, fun e1 e2 => ?_, fun e1 e2 p o hp ho => ?_⟩
     · subst e
       cases rsa
       exact q.now w (.tup tb rsb)
     · subst e2
       cases rsb
       rw [List.append_nil] at q
       exact q.now w (.tup ta rsa)
     · exact q.nowX w (ex_new hp) (new_tup w hp ho (rsa.append rsb))
 · exact q.elim
theorem od_addL : OpD K E rCat gAddL := fun α H M a b x y Q w ra rb q => by
 unfold gAddL at q
 split at q
 · rename_i xs ys h1 h2
   obtain ⟨l, vs, rfl, e1, r1⟩ := lst_ok w ra h1
   obtain ⟨m, ws, rfl, e2, r2⟩ := lst_ok w rb h2
   obtain ⟨h1, q⟩ := ifb q
   rw [line_eq, r1.length, r2.length] at h1
   exact ⟨_, _, _, _, rfl, rfl, e1, e2, h1, fun p hp => q.nowX w (ex_new hp) (new_lst w hp (r1.append r2))⟩
 · exact q.elim
def gIs' : PM → D → D → Out D := fun M a b => match a with | .raw _ => .bad | a => gIs M a b
def gIsNot' : PM → D → D → Out D := fun M a b => match a with | .raw _ => .bad | a => gIsNot M a b
theorem atI_rep {α : List Addr} {H : Hp} {ds : List D} {xs : List V} {i : Int} {d : D} (r : RepL K α H ds xs) (e : atI ds i = some d) : ∃ v, atI xs i = some v ∧ Rep K α H d v := by
 unfold atI at e ⊢
 rw [r.length] at e
 cases hn : ixN xs.length i with
 | none => rw [hn] at e; cases e
 | some j =>
  rw [hn] at e
  exact r.get e
theorem od_ix : OpD K E (rIx K) gIx := fun α H M a b x y Q w ra rb q => by
 unfold gIx at q
 split at q
 · rename_i i
   cases rb
   split at q
   · rename_i z
     cases ra
     obtain ⟨hl, q⟩ := ifb q
     rw [line_eq] at hl
     split at q
     · rename_i c hc
       exact .inr (.inr ⟨z, i, c, rfl, rfl, hl, hc, q.now w (.str _)⟩)
     · exact q.elim
   · split at q
     · rename_i ds hd
       obtain ⟨p, xs, rfl, hs, rs⟩ := seq_ok w ra hd
       split at q
       · rename_i d hd
         obtain ⟨v, e1, e2⟩ := atI_rep rs hd
         rcases hs with hs | hs
         · exact .inl ⟨p, xs, i, v, rfl, rfl, hs, e1, q.now w e2⟩
         · exact .inr (.inl ⟨p, xs, i, v, rfl, rfl, hs, e1, q.now w e2⟩)
       · exact q.elim
     · exact q.elim
 · exact q.elim
def bLen : PM → List D → Out D := fun M as => match as with
 | [.str z] => if z.length ≤ line then .ok (.int z.length) M else .bad
 | [a] => match seqOf M a with | some ds => .ok (.int ds.length) M | none => .bad
 | _ => .bad
def bAbs : PM → List D → Out D := fun M as => match as with
 | [.int i] => .ok (.int (if i < 0 then -i else i)) M
 | _ => .bad
def bInt : PM → List D → Out D := fun M as => match as with
 | [.int i] => .ok (.int i) M
 | [.bl k] => .ok (.int (if k then 1 else 0)) M
 | [.str z] => match PySem.intText? z with
  | some n => if z.length ≤ 640 then .ok (.int n) M else .bad
  | none => .bad
 | _ => .bad
def bTuple : PM → List D → Out D := fun M as => match as with
 | [.tup ds] => .ok (.tup ds) M
 | [a] => match seqOf M a with | some ds => .ok (.tup ds) M | none => .bad
 | _ => .bad
def tyD : D → Option String
 | .non => some "NoneType" | .bl _ => some "bool" | .int _ => some "int" | .str _ => some "str" | .tup _ => some "tuple" | .lst _ => some "list" | .rol _ => some "list" | _ => none
def isiB : String → String → Option Bool
 | "bool", "int" => some true
 | a, b => if a ∈ ["NoneType", "bool", "int", "str", "tuple", "list"] ∧ b ∈ ["bool", "int", "str", "tuple", "list", "dict"] then some (decide (a = b)) else none
def tyM (M : PM) : D → Option String
 | .adr k => match M[k]? with | some (.lst _) => some "list" | _ => none
 | d => tyD d
def bIsi : PM → List D → Out D := fun M as => match as with
 | [a, .raw (.ty n)] => match tyM M a with
  | some t => match isiB t n with | some r => .ok (.bl r) M | none => .bad
  | none => .bad
 | _ => .bad
theorem rep1 {α : List Addr} {H : Hp} {a : D} {xs : List V} (r : RepL K α H [a] xs) : ∃ x, xs = [x] ∧ Rep K α H a x := by
 cases r with
 | cons r1 r2 => cases r2; exact ⟨_, rfl, r1⟩
theorem cd_len : CbD K E (fun xs H Q => ∃ x n, xs = [x] ∧ LenV K x H n ∧ Q (.int n) H) bLen := fun α H M as xs Q w ra q => by
 unfold bLen at q
 split at q
 · obtain ⟨x, rfl, r⟩ := rep1 ra
   cases r
   obtain ⟨hl, q⟩ := ifb q
   rw [line_eq] at hl
   exact ⟨_, _, rfl, ⟨hl, rfl⟩, q.now w (.int _)⟩
 · obtain ⟨x, rfl, r⟩ := rep1 ra
   split at q
   · rename_i ds hd
     obtain ⟨p, xs, rfl, hs, rs⟩ := seq_ok w r hd
     refine ⟨_, ds.length, rfl, ?_, q.now w (.int _)⟩
     rcases hs with hs | hs
     · exact .inl ⟨xs, hs, rs.length⟩
     · exact .inr ⟨xs, hs, rs.length⟩
   · exact q.elim
 · exact q.elim
theorem cd_abs : CbD K E (fun xs H Q => ∃ i, xs = [.int i] ∧ Q (.int (if i < 0 then -i else i)) H) bAbs := fun α H M as xs Q w ra q => by
 unfold bAbs at q
 split at q
 · obtain ⟨x, rfl, r⟩ := rep1 ra
   cases r
   exact ⟨_, rfl, q.now w (.int _)⟩
 · exact q.elim
def rIntD : List V → Hp → VK → Prop := fun xs H Q => ((∃ i, xs = [.int i] ∧ Q (.int i) H) ∨ ∃ k, xs = [.bl k] ∧ Q (.int (if k then 1 else 0)) H) ∨ (∃ a n, xs = [.str a] ∧ PySem.intText? a = some n ∧ a.length ≤ 640 ∧ Q (.int n) H)
theorem cd_int : CbD K E rIntD bInt := fun α H M as xs Q w ra q => by
 unfold bInt at q
 split at q
 · obtain ⟨x, rfl, r⟩ := rep1 ra
   cases r
   exact .inl (.inl ⟨_, rfl, q.now w (.int _)⟩)
 · obtain ⟨x, rfl, r⟩ := rep1 ra
   cases r
   exact .inl (.inr ⟨_, rfl, q.now w (.int _)⟩)
 · obtain ⟨x, rfl, r⟩ := rep1 ra
   cases r
   split at q
   · rename_i n hn
     obtain ⟨hl, q⟩ := ifb q
     exact .inr ⟨_, n, rfl, hn, hl, q.now w (.int _)⟩
   · exact q.elim
 · exact q.elim
end
end Pd
namespace Pd
open PySem L2 PyProof.Rows
structure PD (X : Cx) (E : XK) (e : Expr) (f : FE) : Prop where
 ex : ∃ t, PE X e t ∧ RE X.K E t f
structure PDT (X : Cx) (E : XK) (e : Expr) (f : FT) : Prop where
 ex : ∃ t, PT X e t ∧ RT X.K E t f
structure PDW (X : Cx) (E : XK) (e : Expr) (f : FT) : Prop where
 ex : ∃ t, PW X e t ∧ RT X.K E t f
structure PDA (X : Cx) (E : XK) (es : List Expr) (f : FA) : Prop where
 ex : ∃ t, PA X es t ∧ RA X.K E t f
structure PDS (X : Cx) (E : XK) (st : Stmt) (f : FS) : Prop where
 ex : ∃ t, PS X st t ∧ RS X.K E t f
structure PDB (X : Cx) (E : XK) (st : List Stmt) (f : FS) : Prop where
 ex : ∃ t, PSs X st t ∧ RS X.K E t f
structure PDG (X : Cx) (E : XK) (e : Expr) (f : FG) : Prop where
 ex : ∃ t, PG X e t ∧ RG X.K E t f
structure PDI (X : Cx) (E : XK) (tg iter : Expr) (f : FA) : Prop where
 ex : ∃ t, PI X tg iter t ∧ RI X.K E t f
structure Op2 (X : Cx) (E : XK) (f : Value → Value → Sem Value) (g : PM → D → D → Out D) : Prop where
 ex : ∃ r, OpR X f r ∧ OpD X.K E r g
structure Blt (X : Cx) (E : XK) (f : Value) (g : PM → List D → Out D) : Prop where
 ex : ∃ r, CallR X f r ∧ CbD X.K E r g
section
variable {X : Cx} {E : XK} {a b c e o : Expr} {es : List Expr} {fa fb fc fe : FE} {pos p apos : Pos} {x : Str}
theorem pd_var (i : Nat) (hN : X.N[i]? = some x := by rfl) (hv : Vis X.env.scope x := by first | exact Or.inl rfl | exact Or.inr (Or.inl rfl) | exact Or.inr (Or.inr rfl)) (hd : (x == ("__debug__" : Str)) = false := by decide)
 (hcd : (x == ("__classdict__" : Str)) = false := by decide) : PD X E (.Name x pos) (pVar i) := ⟨_, pe_var hN hv hd hcd, r_var⟩
theorem pd_int {i : Int} {j} : PD X E (.Constant (.int i) j pos) (pC (.int i)) := ⟨_, pe_int, r_c fun _ _ => .int i⟩
theorem pd_str {z : Str} {j} : PD X E (.Constant (.str z) j pos) (pC (.str z)) := ⟨_, pe_str, r_c fun _ _ => .str z⟩
theorem pd_bl {k : Bool} {j} : PD X E (.Constant (.bool k) j pos) (pC (.bl k)) := ⟨_, pe_bl, r_c fun _ _ => .bl k⟩
theorem pd_op {op : Operator} {g : PM → D → D → Out D} (ho : Op2 X E (binaryOp op) g) (ha : PD X E a fa) (hb : PD X E b fb) : PD X E (.BinOp a op b pos) (pOp g fa fb) := by
 obtain ⟨r, h1, h2⟩ := ho
 obtain ⟨ta, ha, ra⟩ := ha
 obtain ⟨tb, hb, rb⟩ := hb
 exact ⟨_, pe_op h1 ha hb, r_op ra rb h2⟩
theorem pd_cmp {op : CmpOp} {g : PM → D → D → Out D} (ho : Op2 X E (compareOp op) g) (ha : PD X E a fa) (hb : PD X E b fb) (hm : behindInMarks op b = false) : PD X E (.Compare a [op] [b] pos) (pOp g fa fb) := by
 obtain ⟨r, h1, h2⟩ := ho
 obtain ⟨ta, ha, ra⟩ := ha
 obtain ⟨tb, hb, rb⟩ := hb
 exact ⟨_, pe_cmpR h1 ha hb hm, r_op ra rb h2⟩
theorem pdt_cmp {op : CmpOp} {g : PM → D → D → Out D} (ho : Op2 X E (compareOp op) g) (ha : PD X E a fa) (hb : PD X E b fb) (hm : behindInMarks op b = false) : PDT X E (.Compare a [op] [b] pos) (pTest (pOp g fa fb)) := by
 obtain ⟨r, h1, h2⟩ := ho
 obtain ⟨ta, ha, ra⟩ := ha
 obtain ⟨tb, hb, rb⟩ := hb
 exact ⟨_, pt_cmpR h1 ha hb hm, r_test (r_op ra rb h2)⟩
theorem pd_one {op} (ha : PD X E a fa) : PD X E (.BoolOp op [a] pos) fa := by
 obtain ⟨ta, ha, ra⟩ := ha
 exact ⟨_, pe_one ha, ra⟩
theorem pd_and (ha : PD X E a fa) (hb : PD X E (.BoolOp .And (b :: es) pos) fb) : PD X E (.BoolOp .And (a :: b :: es) pos) (pAndV fa fb) := by
 obtain ⟨ta, ha, ra⟩ := ha
 obtain ⟨tb, hb, rb⟩ := hb
 exact ⟨_, pe_and ha hb, r_andV ra rb⟩
theorem pdt_val (ha : PD X E e fe) (he : ∀ whole, isTrue e X.env whole = (do let v ← whole; standAt e.pos; holding [v] (truthy v)) := by intro _; rfl) : PDT X E e (pTest fe) := by
 obtain ⟨ta, ha, ra⟩ := ha
 exact ⟨_, pt_val ha he, r_tB ra⟩
theorem pdt_not {t : FT} (ha : PDT X E a t) : PDT X E (.UnaryOp .Not a pos) (pNot t) := by
 obtain ⟨ta, ha, ra⟩ := ha
 exact ⟨_, pt_not ha, r_not ra⟩
theorem pdt_w {t : FT} (h : PDW X E e t) : PDT X E e t := by
 obtain ⟨t', h, r⟩ := h
 exact ⟨_, h.pt, r⟩
theorem pdw_or1 {t : FT} (ha : PDT X E a t) : PDW X E (.BoolOp .Or [a] pos) t := by
 obtain ⟨ta, ha, ra⟩ := ha
 exact ⟨_, pw_or1 ha, ra⟩
theorem pdw_or {t u : FT} (ha : PDT X E a t) (hb : PDW X E (.BoolOp .Or (b :: es) pos) u) : PDW X E (.BoolOp .Or (a :: b :: es) pos) (pOr t u) := by
 obtain ⟨ta, ha, ra⟩ := ha
 obtain ⟨tb, hb, rb⟩ := hb
 exact ⟨_, pw_or ha hb, r_or ra rb⟩
theorem pda_nil : PDA X E [] aNil := ⟨_, pa_nil, r_nil⟩
theorem pda_cons {f : FA} (ha : PD X E e fe) (hr : PDA X E es f) (h : starEach (e :: es) X.env = (false, eval e X.env) :: starEach es X.env := by rfl) : PDA X E (e :: es) (aCons fe f) := by
 obtain ⟨ta, ha, ra⟩ := ha
 obtain ⟨tr, hr, rr⟩ := hr
 exact ⟨_, pa_cons ha hr h, r_cons ra rr⟩
theorem pd_tup {f : FA} {x1} (h : PDA X E es f) : PD X E (.Tuple es x1 pos) (pTup f) := by
 obtain ⟨t, h, r⟩ := h
 exact ⟨_, pe_tupX h, r_tup r⟩
theorem pd_lst {f : FA} (h : PDA X E es f) : PD X E (.List es pos) (pLst f) := by
 obtain ⟨t, h, r⟩ := h
 exact ⟨_, pe_lst h, r_lst r⟩
theorem pd_new {f : FA} (h : PDA X E es f) : PD X E (.List es pos) (pNew f) := by
 obtain ⟨t, h, r⟩ := h
 exact ⟨_, pe_lst h, r_new r⟩
theorem pd_ix (ha : PD X E a fa) (hb : PD X E b fb) (hs : PlainIx b := by exact fun _ _ => rfl) : PD X E (.Subscript a b pos) (pOp gIx fa fb) := by
 obtain ⟨ta, ha, ra⟩ := ha
 obtain ⟨tb, hb, rb⟩ := hb
 exact ⟨_, pe_ix ix_seq ha hb hs, r_op ra rb od_ix⟩
theorem pd_call {CX : CXT} {k : Nat} {f : Addr} {fd : FuncData} {ps : List Str} {Φ : List D → PM → Out D} {fargs : FA} (F : FnOk X.prog X.w X.K X.mg X.base CX k f fd ps (spP X.K Φ)) (hr : Room k X.A) (hg : Gl X x) (hm : X.mg x = some (.ref f)) (hk : PySem.W.keepIn X.K (.ref f) = true)
 (hb : Binds X.K fd ps []) (hx : Passes CX X E) (ha : PDA X E (e :: es) fargs) (hdb : (x == ("__debug__" : Str)) = false := by decide)
 (he : starEach (e :: es) X.env = (false, eval e X.env) :: starEach es X.env := by rfl) (hpl : (backTo pos (starEach es X.env)).any (·.1) = false := by rfl) : PD X E (.Call (.Name x p) (e :: es) [] pos) (pCall Φ fargs) := by
 obtain ⟨t, ha, r⟩ := ha
 exact ⟨_, pe_call F hr hg hm hk hb .nil hx ha hdb he hpl, r_call r⟩
theorem pd_callB {id : String} {g : PM → List D → Out D} {fargs : FA} (hc : Blt X E (.builtin id) g) (hg : Gl X x) (hm : X.mg x = none) (hv : bootBuiltins x = some (.builtin id)) (ha : PDA X E (e :: es) fargs) (hn : x ≠ "__name__" := by decide) (hdb : (x == ("__debug__" : Str)) = false := by decide)
 (he : starEach (e :: es) X.env = (false, eval e X.env) :: starEach es X.env := by rfl) (hpl : (backTo pos (starEach es X.env)).any (·.1) = false := by rfl) : PD X E (.Call (.Name x p) (e :: es) [] pos) (pCB g fargs) := by
 obtain ⟨r, h1, h2⟩ := hc
 obtain ⟨t, ha, rr⟩ := ha
 exact ⟨_, pe_callB h1 hg hm hv ha hn hdb he hpl, r_cb rr h2⟩
theorem pd_callT {T : String} {g : PM → List D → Out D} {fargs : FA} (hc : Blt X E (.type T) g) (hg : Gl X x) (hm : X.mg x = none) (hv : bootBuiltins x = some (.type T)) (ha : PDA X E (e :: es) fargs) (hn : x ≠ "__name__" := by decide) (hdb : (x == ("__debug__" : Str)) = false := by decide)
 (he : starEach (e :: es) X.env = (false, eval e X.env) :: starEach es X.env := by rfl) (hpl : (backTo pos (starEach es X.env)).any (·.1) = false := by rfl) : PD X E (.Call (.Name x p) (e :: es) [] pos) (pCB g fargs) := by
 obtain ⟨r, h1, h2⟩ := hc
 obtain ⟨t, ha, rr⟩ := ha
 exact ⟨_, pe_callTy h1 hg hm hv ha hn hdb he hpl, r_cb rr h2⟩
theorem o_add : Op2 X E (binaryOp .Add) gAdd := ⟨_, op_add.or (op_add_str.or (op_catX.or op_cat)), (od_II0 fun _ _ _ _ => .int _).or (od_addS.or (od_addT.or od_addL))⟩
theorem o_mul : Op2 X E (binaryOp .Mult) gMul := ⟨_, op_mul, od_II (fun i j h => by
 unfold cMul at h
 simp only [Bool.or_eq_true, Bool.and_eq_true, decide_eq_true_eq] at h
 exact h) fun _ _ _ _ => .int _⟩
theorem o_fdiv : Op2 X E (binaryOp .FloorDiv) gFdiv := ⟨_, op_fdiv.or op_fdivN, (od_II (fun i j h => by
 unfold cDiv at h
 simp only [Bool.and_eq_true, decide_eq_true_eq] at h
 exact h) fun _ _ _ _ => .int _).or (od_II (fun i j h => by
 unfold cDivN at h
 simp only [Bool.and_eq_true, decide_eq_true_eq] at h
 exact h) fun _ _ _ _ => .int _)⟩
theorem o_mod : Op2 X E (binaryOp .Mod) gMod := ⟨_, op_mod.or op_modN, (od_II (fun i j h => of_decide_eq_true h) fun _ _ _ _ => .int _).or (od_II (fun i j h => of_decide_eq_true h) fun _ _ _ _ => .int _)⟩
theorem o_pow : Op2 X E (binaryOp .Pow) gPow := ⟨_, op_pow, od_II (fun i j h => by
 unfold cPow at h
 simp only [Bool.and_eq_true, decide_eq_true_eq] at h
 exact ⟨h.1.1, h.1.2, h.2⟩) fun _ _ _ _ => .int _⟩
theorem o_lt : Op2 X E (compareOp .Lt) gLt := ⟨_, op_lt, od_II0 fun _ _ _ _ => .bl _⟩
theorem o_gt : Op2 X E (compareOp .Gt) gGt := ⟨_, op_gt, od_II0 fun _ _ _ _ => .bl _⟩
theorem o_ge : Op2 X E (compareOp .GtE) gGe := ⟨_, op_ge, od_II0 fun _ _ _ _ => .bl _⟩
theorem b_len : Blt X E (.builtin "len") bLen := ⟨_, call_len, cd_len⟩
theorem b_abs : Blt X E (.builtin "abs") bAbs := ⟨_, call_abs, cd_abs⟩
theorem b_int : Blt X E (.type "int") bInt := ⟨_, call_int1.or call_int_str, cd_int⟩
section
variable {st : Stmt} {sts body orelse : List Stmt} {f g : FS} {t : FT} {tg iter : Expr}
theorem pdb_nil : PDB X E [] sNext := ⟨_, pss_nil, s_next⟩
theorem pdb_cons (h1 : PDS X E st f) (h2 : PDB X E sts g) : PDB X E (st :: sts) (sSeq f g) := by
 obtain ⟨t1, h1, r1⟩ := h1
 obtain ⟨t2, h2, r2⟩ := h2
 exact ⟨_, pss_cons h1 h2, s_seq r1 r2⟩
theorem pdb_one (h1 : PDS X E st f) : PDB X E [st] f := by
 obtain ⟨t1, h1, r1⟩ := h1
 exact ⟨_, pss_one h1, r1⟩
theorem pds_set {pos' : Pos} (i : Nat) (he : PD X E e fe) (hN : X.N.Nodup) (hi : X.N[i]? = some x := by rfl) (hx : Loc X.env.scope x := by first | exact Or.inl rfl | exact Or.inr rfl) (hs : swapsWith e (some (.Name x pos')) pos.line X.env = pure false := by rfl)
 (hf : X.fn x = true ∨ X.env.scope.names.lookup x = some .local := by first | exact .inl rfl | exact .inr rfl | assumption) : PDS X E (.Assign [.Name x pos'] e pos) (sAsg fe (fName i)) := by
 obtain ⟨t, he, r⟩ := he
 exact ⟨_, ps_set hN hi hx he hs hf, s_asg r g_name⟩
theorem pds_asg {fg : FG} (he : PD X E e fe) (hg : PDG X E tg fg) (hs : swapsWithSole [tg] e pos.line X.env = pure false := by rfl) (hw : swappedStores [tg] e X.env = pure none := by rfl)
 (h1 : (assignEach [tg] X.env).map (·.2) = [assign tg X.env] := by rfl) : PDS X E (.Assign [tg] e pos) (sAsg fe fg) := by
 obtain ⟨t, he, r⟩ := he
 obtain ⟨tg', hg, rg⟩ := hg
 exact ⟨_, ps_asg he hg hs hw h1, s_asg r rg⟩
theorem pdg_name {i : Nat} (hN : X.N.Nodup) (hi : X.N[i]? = some x := by rfl) (hx : Loc X.env.scope x := by first | exact Or.inl rfl | exact Or.inr rfl) (hf : X.fn x = true ∨ X.env.scope.names.lookup x = some .local := by first | exact .inl rfl | exact .inr rfl | assumption) : PDG X E (.Name x pos) (fName i) :=
 ⟨_, pg_name hN hi hx hf, g_name⟩
theorem pdg_sub (ho : PD X E a fa) (hi : PD X E b fb) (ha : ∀ v, assign (.Subscript a b pos) X.env v = (do
 let ov ← holding [v] (eval a X.env)
 let iv ← holding [v, ov] (eval b X.env)
 standAt pos
 holding [v, ov, iv] (setItem ov iv v)
 release [v, ov, iv] []) := by intro v; rfl) : PDG X E (.Subscript a b pos) (fSub fa fb) := by
 obtain ⟨t1, h1, r1⟩ := ho
 obtain ⟨t2, h2, r2⟩ := hi
 exact ⟨_, pg_sub h1 h2 set_list ha, g_sub r1 r2⟩
theorem pds_ret (he : PD X E e fe) : PDS X E (.Return (some e) pos) (sRet fe) := by
 obtain ⟨t, he, r⟩ := he
 exact ⟨_, ps_ret he, s_ret r⟩
theorem pds_if (hc : PDT X E c t) (h1 : PDB X E body f) (h2 : PDB X E orelse g) : PDS X E (.If c body orelse pos) (sIf t f g) := by
 obtain ⟨tc, hc, rc⟩ := hc
 obtain ⟨t1, h1, r1⟩ := h1
 obtain ⟨t2, h2, r2⟩ := h2
 exact ⟨_, ps_if hc h1 h2, s_if rc r1 r2⟩
theorem pds_for {fw : FA} {fg : FG} (hp : PassesOwn (model X.prog X.w) X.A X.env X.xe) (hc : X.calm = true) (hi : PDI X E tg iter fw) (hg : PDG X E tg fg) (hb : PDB X E body f) (hs : ∀ x, foldedSetIterable iter X.env x = pure x := by intro _; rfl) : PDS X E (.For tg iter body [] pos) (sFor fw fg f) := by
 obtain ⟨ti, hi, ri⟩ := hi
 obtain ⟨t1, hg, rg⟩ := hg
 obtain ⟨tb, hb, rb⟩ := hb
 exact ⟨_, ps_for hp hc hi hg hb hs, s_for ri rg rb⟩
end
end
end Pd
namespace Pd
open PySem L2 PyProof.Rows
mutual
def clD (n : Nat) : D → Bool
 | .adr i => decide (i < n)
 | .tup ds => clL n ds
 | .lst ds => clL n ds
 | .rol ds => clL n ds
 | .xcp _ _ _ ds => clL n ds
 | .rod _ ds => clL n ds
 | .rot _ ds => clL n ds
 | .non => true
 | .bl _ => true
 | .int _ => true
 | .str _ => true
 | .raw _ => true
def clL (n : Nat) : List D → Bool
 | [] => true
 | d :: ds => clD n d && clL n ds
end
def clMO (n : Nat) : MO → Bool
 | .lst ds => clL n ds
 | .ins _ fs => clL n (fs.map (·.2))
 | .dct kvs => clL n (kvs.map (·.2))
 | .dcu _ _ kvs => clL n (kvs.map (·.2))
 | .err _ _ fs => clL n (fs.map (·.2))
section
variable {K : PySem.W.Frag} {α α' : List Addr} {H H' : Hp} {E : XK}
mutual
theorem Rep.cl : ∀ (d : D) (v : V), Rep K α H d v → clD α.length d = true
 | .adr i, _, h => by
  cases h with
  | adr e => simp only [clD, decide_eq_true_eq]; exact (List.getElem?_eq_some_iff.mp e).1
 | .tup ds, _, h => by cases h with | tup t r => simp only [clD]; exact RepL.cl ds _ r
 | .lst ds, _, h => by cases h with | lst t r => simp only [clD]; exact RepL.cl ds _ r
 | .rol ds, _, h => by cases h with | rol t r => simp only [clD]; exact RepL.cl ds _ r
 | .xcp _ _ _ ds, _, h => by cases h with | xcp e n r => simp only [clD]; exact RepL.cl ds _ r
 | .rod _ ds, _, h => by cases h with | rod e n r => simp only [clD]; exact RepL.cl ds _ r
 | .rot _ ds, _, h => by cases h with | rot e n r => simp only [clD]; exact RepL.cl ds _ r
 | .non, _, _ => by simp only [clD]
 | .bl _, _, _ => by simp only [clD]
 | .int _, _, _ => by simp only [clD]
 | .str _, _, _ => by simp only [clD]
 | .raw _, _, _ => by simp only [clD]
theorem RepL.cl : ∀ (ds : List D) (vs : List V), RepL K α H ds vs → clL α.length ds = true
 | [], _, _ => by simp only [clL]
 | d :: ds, _, h => by
  cases h with
  | cons r t => simp only [clL, Bool.and_eq_true]; exact ⟨Rep.cl d _ r, RepL.cl ds _ t⟩
end
mutual
theorem Rep.trim (n : Nat) : ∀ (d : D) (v : V), clD n d = true → Rep K α H d v → Rep K (α.take n) H d v
 | .adr i, _, c, h => by
  cases h with
  | adr e =>
   simp only [clD, decide_eq_true_eq] at c
   exact .adr (by rw [List.getElem?_take_of_lt c]; exact e)
 | .tup ds, _, c, h => by
  cases h with
  | tup t r =>
   simp only [clD] at c
   refine .tup ?_ (RepL.trim n ds _ c r)
   rcases t with ⟨t, q⟩ | t
   · exact .inl ⟨t, fun z => q (List.mem_of_mem_take z)⟩
   · exact .inr t
 | .lst ds, _, c, h => by
  cases h with
  | lst t r =>
   simp only [clD] at c
   exact .lst ⟨t.1, fun z => t.2 (List.mem_of_mem_take z)⟩ (RepL.trim n ds _ c r)
 | .rol ds, _, c, h => by
  cases h with
  | rol t r =>
   simp only [clD] at c
   refine .rol ?_ (RepL.trim n ds _ c r)
   rcases t with ⟨t, q⟩ | t
   · exact .inl ⟨t, fun z => q (List.mem_of_mem_take z)⟩
   · exact .inr t
 | .xcp a dd ns ds, _, c, h => by
  cases h with
  | xcp e q r =>
   simp only [clD] at c
   exact .xcp e (fun z => q (List.mem_of_mem_take z)) (RepL.trim n ds _ c r)
 | .rod ks ds, _, c, h => by
  cases h with
  | rod e q r =>
   simp only [clD] at c
   exact .rod e (fun z => q (List.mem_of_mem_take z)) (RepL.trim n ds _ c r)
 | .rot ks ds, _, c, h => by
  cases h with
  | rot e q r =>
   simp only [clD] at c
   exact .rot e (fun z => q (List.mem_of_mem_take z)) (RepL.trim n ds _ c r)
 | .non, _, _, h => by cases h; exact .non
 | .bl b, _, _, h => by cases h; exact .bl b
 | .int b, _, _, h => by cases h; exact .int b
 | .str b, _, _, h => by cases h; exact .str b
 | .raw b, _, _, h => by cases h; exact .raw b
theorem RepL.trim (n : Nat) : ∀ (ds : List D) (vs : List V), clL n ds = true → RepL K α H ds vs → RepL K (α.take n) H ds vs
 | [], _, _, h => by cases h; exact .nil
 | d :: ds, _, c, h => by
  cases h with
  | cons r t =>
   simp only [clL, Bool.and_eq_true] at c
   exact .cons (Rep.trim n d _ c.1 r) (RepL.trim n ds _ c.2 t)
end
theorem DL.cl : ∀ {r : List (Key × D)} {q : List (Key × V)}, DL K α H r q → clL α.length (r.map (·.2)) = true
 | _, _, .nil => rfl
 | _, _, .cons h t => by
  simp only [List.map_cons, clL, Bool.and_eq_true]
  exact ⟨Rep.cl _ _ h, DL.cl t⟩
theorem DL.trim (n : Nat) : ∀ {r : List (Key × D)} {q : List (Key × V)}, clL n (r.map (·.2)) = true → DL K α H r q → DL K (α.take n) H r q
 | _, _, _, .nil => .nil
 | _, _, c, .cons h t => by
  simp only [List.map_cons, clL, Bool.and_eq_true] at c
  exact .cons (Rep.trim n _ _ c.1 h) (DL.trim n c.2 t)
theorem DU.cl : ∀ {r : List (List Key × D)} {q : List (List Key × Addr × V)}, DU K α H r q → clL α.length (r.map (·.2)) = true
 | _, _, .nil => rfl
 | _, _, .cons _ h t => by
  simp only [List.map_cons, clL, Bool.and_eq_true]
  exact ⟨Rep.cl _ _ h, DU.cl t⟩
theorem DU.trim (n : Nat) : ∀ {r : List (List Key × D)} {q : List (List Key × Addr × V)}, clL n (r.map (·.2)) = true → DU K α H r q → DU K (α.take n) H r q
 | _, _, _, .nil => .nil
 | _, _, c, .cons y h t => by
  simp only [List.map_cons, clL, Bool.and_eq_true] at c
  refine .cons ?_ (Rep.trim n _ _ c.1 h) (DU.trim n c.2 t)
  rcases y with ⟨y, m⟩ | y
  · exact .inl ⟨y, fun z => m (List.mem_of_mem_take z)⟩
  · exact .inr y
theorem ErrR.trim (n : Nat) {a C : Addr} {fs : List (Str × D)} (c : clL n (fs.map (·.2)) = true) (h : ErrR K α H a C fs) : ErrR K (α.take n) H a C fs := by
 rcases h with h | ⟨d, vs, h1, h2, h3, h4⟩
 · exact .inl h
 · exact .inr ⟨d, vs, h1, h2, fun z => h3 (List.mem_of_mem_take z), RepL.trim n _ _ c h4⟩
theorem ErrR.cl {a C : Addr} {fs : List (Str × D)} (h : ErrR K α H a C fs) : clL α.length (fs.map (·.2)) = true := by
 rcases h with ⟨rfl, _⟩ | ⟨d, vs, h1, h2, h3, h4⟩
 · rfl
 · exact RepL.cl _ _ h4
theorem ObR.cl {a : Addr} {m : MO} (h : ObR K α H a m) : clMO α.length m = true := by
 cases m with
 | lst ds => obtain ⟨vs, _, r⟩ := h; exact RepL.cl ds _ r
 | ins C fs => obtain ⟨dx, vs, _, r⟩ := h; exact RepL.cl _ _ r
 | dct kvs => obtain ⟨q, _, r⟩ := h; exact DL.cl r
 | dcu P w kvs => obtain ⟨q, _, r⟩ := h; exact DU.cl r
 | err C n fs => exact ErrR.cl h
theorem ObR.trim {a : Addr} {m : MO} (n : Nat) (c : clMO n m = true) (h : ObR K α H a m) : ObR K (α.take n) H a m := by
 cases m with
 | lst ds => obtain ⟨vs, e, r⟩ := h; exact ⟨vs, e, RepL.trim n ds _ c r⟩
 | ins C fs => obtain ⟨dx, vs, e, r⟩ := h; exact ⟨dx, vs, e, RepL.trim n _ _ c r⟩
 | dct kvs => obtain ⟨q, e, r⟩ := h; exact ⟨q, e, DL.trim n c r⟩
 | dcu P w kvs => obtain ⟨q, e, r⟩ := h; exact ⟨q, e, DU.trim n c r⟩
 | err C n' fs => exact ErrR.trim n c h
theorem Wd.cl {M : PM} (w : Wd K α M H) : ∀ m ∈ M, clMO M.length m = true := fun m hm => by
 obtain ⟨i, hi, e⟩ := List.mem_iff_getElem.mp hm
 obtain ⟨a, _, o⟩ := w.ob i m (by rw [List.getElem?_eq_getElem hi, e])
 rw [← w.len]
 exact o.cl
theorem Wd.trim {M' junk : PM} (w : Wd K α (M' ++ junk) H) (c : ∀ m ∈ M', clMO M'.length m = true) : Wd K (α.take M'.length) M' H := by
 refine ⟨w.nd.sublist (List.take_sublist _ _), by rw [List.length_take, w.len, List.length_append]; omega, fun i m e => ?_⟩
 have hi := (List.getElem?_eq_some_iff.mp e).1
 obtain ⟨a, e1, o⟩ := w.ob i m (by rw [List.getElem?_append_left hi]; exact e)
 exact ⟨a, by rw [List.getElem?_take_of_lt hi]; exact e1, o.trim _ (c m (List.mem_of_getElem? e))⟩
theorem Step.trim {n : Nat} (s : Step α H α' H') (h : α.length ≤ n) : Step α H (α'.take n) H' := by
 obtain ⟨β, rfl, hb⟩ := s.ext
 refine ⟨⟨β.take (n - α.length), ?_, fun b hb' => hb b (List.mem_of_mem_take hb')⟩, s.pr⟩
 rw [List.take_append, List.take_of_length_le h]
def Shuts (M' M'' : PM) (d' d : D) : Prop := (M'' = M' ∧ d' = d) ∨
 ∃ junk, M'' = M' ++ junk ∧ (∀ m ∈ M', clMO M'.length m = true) ∧ ((d' = d ∧ clD M'.length d = true) ∨ ∃ i es, d' = .adr i ∧ M'.length ≤ i ∧ M''[i]? = some (.lst es) ∧ d = .lst es ∧ clL M'.length es = true)
theorem shut_ok {M' M'' : PM} {d' d : D} {v : V} (s : Shuts M' M'' d' d) (w : Wd K α M'' H) (r : Rep K α H d' v) : Wd K (α.take M'.length) M' H ∧ Rep K (α.take M'.length) H d v := by
 rcases s with ⟨rfl, rfl⟩ | ⟨junk, rfl, c, s⟩
 · rw [← w.len, List.take_length]
   exact ⟨w, r⟩
 · refine ⟨w.trim c, ?_⟩
   rcases s with ⟨rfl, cd⟩ | ⟨i, es, rfl, hi, e, rfl, ce⟩
   · exact Rep.trim _ _ _ cd r
   · cases r with
     | adr ha =>
      obtain ⟨a', e1, vs, e2, e3⟩ := w.ob _ _ e
      rw [ha] at e1
      cases e1
      refine .lst ⟨e2, fun z => ?_⟩ (RepL.trim _ _ _ ce e3)
      obtain ⟨j, hj, e4⟩ := List.mem_iff_getElem.mp z
      rw [List.getElem_take] at e4
      rw [List.length_take] at hj
      obtain ⟨hi', e5⟩ := List.getElem?_eq_some_iff.mp ha
      have := (List.getElem_inj w.nd).mp (e4.trans e5.symm)
      omega
def rho0 (N : List Str) (ds : List D) : Rho := ds.map some ++ List.replicate (N.length - ds.length) none
theorem env0 {N : List Str} {ds : List D} {vs : List V} (r : RepL K α H ds vs) : EnvR K α H (rho0 N ds) (L2.start N vs) := by
 unfold rho0 L2.start
 refine ⟨by simp [r.length], fun i d h => ?_⟩
 by_cases hi : i < ds.length
 · rw [List.getElem?_append_left (by simpa using hi), List.getElem?_map] at h
   cases e : ds[i]? with
   | none => rw [e] at h; cases h
   | some d' =>
    rw [e] at h
    cases h
    obtain ⟨v, e1, e2⟩ := r.get e
    refine ⟨v, ?_, e2⟩
    rw [List.getElem?_append_left (by rw [List.length_map, ← r.length]; exact hi), List.getElem?_map, e1]
    rfl
 · rw [List.getElem?_append_right (by simpa using hi), List.getElem?_replicate] at h
   split at h <;> cases h
def Fits (N : List Str) (g : FS) (Φ : List D → PM → Out D) (ds : List D) (M : PM) : Prop := match Φ ds M with
 | .ok d M' => M.length ≤ M'.length ∧ ∃ d' M'', (g (rho0 N ds) M = .ok (.rt d') M'' ∨ (∃ ρ, g (rho0 N ds) M = .ok (.nx ρ) M'' ∧ d' = .non)) ∧ Shuts M' M'' d' d
 | .exn _ _ _ => False
 | .bad => True
theorem fn_pd {P : Program} {w : World} {mg : Str → Option Value} {base : Heap} {x qual : Str} {st : Stmt} {f : Addr} {fd : FuncData} {N ps : List Str} {k : Nat} {Φ : List D → PM → Out D} {g : FS} (F : Fun K x qual st f fd) (S : FnScope N ps (defScope st))
 (hl : ∀ ds M, ds.length ≠ ps.length → Φ ds M = .bad)
 (body : ∀ (cdv : Value) (A : Around) (outer : List PySem.Env) (s : Shared) (H : Hp) (E : XK), Room k (A.deeper (envOfC qual (defScope st) s.heap.objs.size f cdv)) → PDB (cxOf CX0 P w K mg base N qual (defScope st) f cdv A outer s H E).nox E0 (defBody st) g)
 (fit : ∀ ds M, ds.length = ps.length → (∀ m ∈ M, clMO M.length m = true) → clL M.length ds = true → Fits N g Φ ds M) : FnOk P w K mg base CX0 (k + 1) f fd ps (spP K Φ) := by
 refine F.ok S (fun vs H Q E h => ?_) (fun cdv A outer s H vs Q E hr h => ?_)
 · obtain ⟨ds, α, M, hw, hr, hp⟩ := h
   by_cases e : ds.length = ps.length
   · rw [← hr.length]; exact e
   · rw [hl ds M e] at hp; exact hp.elim
 · obtain ⟨ds, α, M, hw, hrp, hp⟩ := h
   obtain ⟨t, h1, h2⟩ := body cdv A outer s H E hr
   refine ⟨t, h1, ?_⟩
   have hlen : ds.length = ps.length := by
    by_cases e : ds.length = ps.length
    · exact e
    · rw [hl ds M e] at hp; exact hp.elim
   have hf := fit ds M hlen hw.cl (by have := RepL.cl _ _ hrp; rw [hw.len] at this; exact this)
   unfold Fits at hf
   split at hf
   · rename_i d M' he
     rw [he] at hp
     obtain ⟨hM, d', M'', hg, hs⟩ := hf
     have hs' : Shuts M' M'' d' d := hs
     refine h2 (rho0 N ds) _ H α M _ (env0 hrp) hw ?_
     have key : ∀ v α' H', Step α H α' H' → Wd K α' M'' H' → Rep K α' H' d' v → Q v H' := fun v α' H' st w' r' => by
      obtain ⟨w2, r2⟩ := shut_ok hs' w' r'
      exact hp v _ H' (st.trim (by rw [hw.len]; exact hM)) w2 r2
     rcases hg with hg | ⟨ρ, hg, hd⟩
     · rw [hg]
       intro b α' H' st w' r'
       cases b with
       | rt v => exact key v α' H' st w' r'
       | _ => exact r'.elim
     · rw [hg]
       intro b α' H' st w' r'
       cases b with
       | nx σ => exact key .non α' H' st w' (by rw [hd]; exact .non)
       | _ => exact r'.elim
   · exact hf.elim
   · rename_i he
     rw [he] at hp
     exact hp.elim
def rngD (lo : Int) (n : Nat) : List D := (List.range n).map fun (k : Nat) => .int (lo + (k : Int))
def rngOk (j : Int) : Bool := decide (-4611686018427387904 ≤ j) && decide (j < 4611686018427387904)
theorem rngOk_of {j : Int} (h : rngOk j = true) : -4611686018427387904 ≤ j ∧ j < 4611686018427387904 := by
 unfold rngOk at h
 rw [Bool.and_eq_true, decide_eq_true_eq, decide_eq_true_eq] at h
 exact h
def pRng1 (f : FA) : FA := fun ρ M => (f ρ M).bind fun as M1 => match as with
 | [.int j] => if rngOk j = true then .ok (rngD 0 j.toNat) M1 else .bad
 | _ => .bad
theorem itr_ok {lo : Int} {n : Nat} : ItR K α H (rngD lo n) (Itr lo n) := fun α' H' st _ i => by
 unfold rngD
 refine ⟨fun d hd => ?_, fun hl => by show n ≤ i; simpa using hl⟩
 rw [List.getElem?_map] at hd
 by_cases hi : i < n
 · rw [List.getElem?_range hi] at hd
   cases hd
   refine ⟨hi, fun x H'' y => ?_⟩
   obtain ⟨rfl, rfl⟩ := y
   exact ⟨fun _ _ h => h, .int _⟩
 · rw [List.getElem?_eq_none (by simpa using hi)] at hd
   cases hd
theorem r_rng1 {ta : TA} {fa : FA} (ha : RA K E ta fa) : RI K E (iRng1 ta) (pRng1 fa) := fun ρ σ H α M Q e w h =>
 ha ρ σ H α M _ e w (bnd h fun as M1 xs α1 H1 _ s1 w1 r1 q => by
  split at q
  · obtain ⟨x, rfl, r⟩ := rep1 r1
    cases r
    obtain ⟨hj, q⟩ := ifb q
    obtain ⟨h1, h2⟩ := rngOk_of hj
    exact ⟨_, rfl, h1, h2, q.now w1 itr_ok⟩
  · exact q.elim)
section
variable {X : Cx} {e a b tg : Expr} {fe : FE} {pos p : Pos}
theorem pdi_rng1 {fa : FA} (hg : Gl X "range") (hm : X.mg "range" = none) (ha : PDA X E [a] fa) (hs : starEach [a] X.env = [(false, eval a X.env)] := by rfl) : PDI X E tg (.Call (.Name "range" p) [a] [] pos) (pRng1 fa) := by
 obtain ⟨t, h, r⟩ := ha
 exact ⟨_, pi_range1 hg hm h hs, r_rng1 r⟩
end
end
end Pd
namespace Pd
open PySem L2 PyProof.Rows
section
variable {K : PySem.W.Frag} {E : XK} {X : Cx}
def canE (K : PySem.W.Frag) (E : XK) (f : FE) : TE := fun σ H Q => ∃ ρ α M, EnvR K α H ρ σ ∧ Wd K α M H ∧ Post (Rep K) K α H Q E (f ρ M)
def canT (K : PySem.W.Frag) (E : XK) (f : FT) : TT := fun σ H Q => ∃ ρ α M, EnvR K α H ρ σ ∧ Wd K α M H ∧ Post (fun _ _ a b => a = b) K α H Q E (f ρ M)
theorem canE_r {f : FE} : RE K E (canE K E f) f := fun ρ σ H α M Q e w h => ⟨ρ, α, M, e, w, h⟩
theorem canT_r {f : FT} : RT K E (canT K E f) f := fun ρ σ H α M Q e w h => ⟨ρ, α, M, e, w, h⟩
theorem PD.can {e : Expr} {f : FE} (h : PD X E e f) : PE X e (canE X.K E f) := by
 obtain ⟨t, h, r⟩ := h
 exact ⟨fun pins s σ H Q I ⟨ρ, α, M, e, w, q⟩ => h.run pins s σ H Q I (r ρ σ H α M Q e w q)⟩
theorem PDT.can {e : Expr} {f : FT} (h : PDT X E e f) : PT X e (canT X.K E f) := by
 obtain ⟨t, h, r⟩ := h
 exact ⟨fun pins s σ H Q I ⟨ρ, α, M, e, w, q⟩ => h.run pins s σ H Q I (r ρ σ H α M Q e w q)⟩
def wipeR (ρ : Rho) : List Nat → Rho
 | [] => ρ
 | v :: vs => (wipeR ρ vs).set v none
theorem EnvR.wipe {α : List Addr} {H : Hp} {ρ : Rho} {σ : L2.St} (e : EnvR K α H ρ σ) : ∀ vs, EnvR K α H (wipeR ρ vs) (wipe σ vs)
 | [] => e
 | v :: vs => by
  have ih := EnvR.wipe e vs
  unfold wipeR L2.wipe
  refine ⟨by rw [List.length_set, List.length_set]; exact ih.1, fun j d h => ?_⟩
  by_cases hj : v = j
  · subst hj
    by_cases hl : v < (wipeR ρ vs).length
    · rw [List.getElem?_set_self hl] at h
      cases h
    · rw [List.set_eq_of_length_le (by omega)] at h
      exact absurd (List.getElem?_eq_some_iff.mp h).1 hl
  · rw [List.getElem?_set_ne hj] at h
    obtain ⟨w, h1, h2⟩ := ih.2 j d h
    exact ⟨w, by rw [List.getElem?_set_ne hj]; exact h1, h2⟩
theorem wipe_set {j : Nat} {v : Option V} : ∀ {vs : List Nat} {σ : L2.St}, j ∈ vs → wipe (σ.set j v) vs = wipe σ vs
 | [], _, h => by cases h
 | w :: vs, σ, h => by
  unfold wipe
  by_cases hm : j ∈ vs
  · rw [wipe_set hm]
  · have hw : j = w := by
     rcases List.mem_cons.mp h with e | e
     · exact e
     · exact absurd e hm
    subst hw
    have : ∀ {us : List Nat} {τ : L2.St}, j ∉ us → wipe (τ.set j v) us = (wipe τ us).set j v := by
     intro us
     induction us with
     | nil => intro τ _; rfl
     | cons u us ih =>
      intro τ hn
      unfold wipe
      rw [ih (fun z => hn (List.mem_cons_of_mem _ z)), List.set_comm _ _ (fun z => hn (by rw [z]; exact List.mem_cons_self ..))]
    rw [this hm, List.set_set]
theorem wipe_wipe (σ : L2.St) : ∀ vs us : List Nat, (∀ v ∈ us, v ∈ vs) → wipe (wipe σ us) vs = wipe σ vs
 | vs, [], _ => rfl
 | vs, u :: us, h => by
  show wipe ((wipe σ us).set u none) vs = _
  rw [wipe_set (h u (List.mem_cons_self ..)), wipe_wipe σ vs us fun v hv => h v (List.mem_cons_of_mem _ hv)]
def OnlyIn (vs : List Nat) (g : TG) : Prop := ∀ v σ H Q, g v σ H Q → g v σ H fun σ2 H2 => wipe σ2 vs = wipe σ vs ∧ Q σ2 H2
theorem only_name {vs : List Nat} {j : Nat} (h : j ∈ vs) : OnlyIn vs (gName j) := fun v σ H Q q => ⟨wipe_set h, q⟩
def lcPut (n : Nat) (y : D) (M : PM) : Out Unit := match M[n]? with
 | some (.lst acc) => if acc.length < line then .ok () (M.set n (.lst (acc ++ [y]))) else .bad
 | _ => .bad
def lcEnd (n : Nat) (M : PM) : Out D := match M[n]? with
 | some (.lst acc) => if M.length = n + 1 ∧ clL n acc = true ∧ (M.take n).all (clMO n) = true then .ok (.lst acc) (M.take n) else .bad
 | _ => .bad
def lcFrom (n : Nat) (g : FG) (t : FT) (f : FE) (ρ0 : Rho) : List D → PM → Out D
 | [], M => lcEnd n M
 | d :: ds, M => (g d ρ0 M).bind fun ρ1 M1 => (t ρ1 M1).bind fun b M2 => if b = true then (f ρ1 M2).bind fun y M3 => (lcPut n y M3).bind fun _ M4 => lcFrom n g t f ρ0 ds M4 else lcFrom n g t f ρ0 ds M2
def pLc (w : FA) (g : FG) (t : FT) (f : FE) (vs : List Nat) : FE := fun ρ M => (w ρ M).bind fun ds M1 => lcFrom M1.length g t f (wipeR ρ vs) ds (M1 ++ [.lst []])
theorem bndB {A B A' B' : Type} {R : List Addr → Hp → A → B → Prop} {R' : List Addr → Hp → A' → B' → Prop} {α0 α : List Addr} {H0 H : Hp} {M : PM} {Q : B' → Hp → Prop} {o : Out A} {g : A → PM → Out A'} {C : B → Hp → Prop}
 (hp : Post R' K α0 H0 Q E (o.bind g)) (s0 : Step α0 H0 α H) (w0 : Wd K α M H) (k : ∀ a M' b α' H', o = .ok a M' → Step α H α' H' → Wd K α' M' H' → R α' H' a b → Post R' K α0 H0 Q E (g a M') → C b H') : Post R K α H C E o := by
 cases o with
 | ok a M' => exact fun b α' H' s w r => k a M' b α' H' rfl s w r hp
 | exn c fs M' => exact fun od α' H' s w r => hp od α' H' (s0.tr w0 s) w r
 | bad => exact hp
theorem r_lc {wi : TI} {g : TG} {tt : TT} {te : TE} {vs : List Nat} {fw : FA} {fg : FG} {ft : FT} {fe : FE} (hi : RI K E wi fw) (hg : RG K E g fg) (ho : OnlyIn vs g) (ht : RT K E tt ft) (he : RE K E te fe) : RE K E (tLc wi g tt te vs) (pLc fw fg ft fe vs) := fun ρ σ H α M Q e w h =>
 hi ρ σ H α M _ e w (bnd h fun ds M1 J α1 H1 _ s1 w1 r1 h1 => by
  intro D hD
  obtain ⟨wb, sb⟩ := w1.new (m := .lst []) (o := .lst []) hD fun H' st e => ⟨[], e, .nil⟩
  have e1 := (e.step s1).wipe vs
  have hDn : (α1 ++ [D])[M1.length]? = some D := by rw [← w1.len, List.getElem?_append_right (Nat.le_refl _), Nat.sub_self]; rfl
  refine ⟨fun i m H => m = ds.length - i ∧ ∃ α M, Wd K α M H ∧ Step α1 H1 α H ∧ α[M1.length]? = some D ∧ Post (Rep K) K α1 H1 Q E (lcFrom M1.length fg ft fe (wipeR ρ vs) (ds.drop i) M), ⟨ds.length, by simp, _, _, wb, sb, hDn, h1⟩, ?_⟩
  rintro i m H2 ⟨rfl, α2, M2, w2, s2, hn2, h2⟩
  obtain ⟨go, stop⟩ := r1 α2 H2 s2 (fun _ h => w2.there h) i
  by_cases hi : i < ds.length
  · refine .inr ?_
    rw [List.drop_eq_getElem_cons hi] at h2
    obtain ⟨g1, y1⟩ := go ds[i] (List.getElem?_eq_getElem hi)
    refine ⟨g1, fun H => ∃ α M, Wd K α M H ∧ Step α1 H1 α H ∧ α[M1.length]? = some D ∧ Post (Rep K) K α1 H1 Q E (lcFrom M1.length fg ft fe (wipeR ρ vs) (ds.drop (i + 1)) M), fun H' z => ⟨ds.length - (i + 1), by omega, rfl, z⟩, fun x H3 y => ?_⟩
    obtain ⟨x3, r3⟩ := y1 x H3 y
    have s3 : Step α2 H2 α2 H3 := Step.ex x3
    have w3 := w2.ex x3
    have st3 := s2.tr w2 s3
    have go2 := ho x (wipe σ vs) H3 _ (hg (wipeR ρ vs) (wipe σ vs) H3 α2 M2 ds[i] x (fun σ2 H2 => tt σ2 H2 fun b H3 => if b = true then te σ2 H3 fun y H4 => ∃ acc, H4 D = some (.lst acc) ∧ acc.length < sizeLine ∧ (∃ α M, Wd K α M (upd H4 D (.lst (acc ++ [y]))) ∧ Step α1 H1 α (upd H4 D (.lst (acc ++ [y]))) ∧ α[M1.length]? = some D ∧ Post (Rep K) K α1 H1 Q E (lcFrom M1.length fg ft fe (wipeR ρ vs) (ds.drop (i + 1)) M)) else (∃ α M, Wd K α M H3 ∧ Step α1 H1 α H3 ∧ α[M1.length]? = some D ∧ Post (Rep K) K α1 H1 Q E (lcFrom M1.length fg ft fe (wipeR ρ vs) (ds.drop (i + 1)) M))) (e1.step st3) w3 r3 ?_)
    · rw [wipe_wipe σ vs vs fun _ h => h] at go2
      exact go2
    · have pf : ∀ {α α' : List Addr} {H H' : Hp}, α[M1.length]? = some D → Step α H α' H' → α'[M1.length]? = some D := fun {α α' H H'} h s => by
       obtain ⟨β, rfl, _⟩ := s.ext
       rw [List.getElem?_append_left (List.getElem?_eq_some_iff.mp h).1]
       exact h
      refine bndB (h2 : Post (Rep K) K α1 H1 Q E ((fg ds[i] (wipeR ρ vs) M2).bind _)) st3 w3 fun ρ4 M4 σ4 α4 H4 _ s4 w4 r4 h4 => ?_
      have st4 := st3.tr w3 s4
      have hn4 := pf hn2 s4
      refine ht ρ4 σ4 H4 α4 M4 _ r4 w4 (bndB h4 st4 w4 fun b M5 b' α5 H5 _ s5 w5 r5 h5 => ?_)
      subst r5
      have st5 := st4.tr w4 s5
      have hn5 := pf hn4 s5
      cases b with
      | false => rw [if_neg Bool.false_ne_true] at h5 ⊢; exact ⟨α5, M5, w5, st5, hn5, h5⟩
      | true =>
       rw [if_pos rfl] at h5 ⊢
       refine he ρ4 σ4 H5 α5 M5 _ (r4.step s5) w5 (bndB h5 st5 w5 fun y M6 v α6 H6 _ s6 w6 r6 h6 => ?_)
       have st6 := st5.tr w5 s6
       have hn6 := pf hn5 s6
       unfold lcPut at h6
       split at h6
       · rename_i acc hm
         obtain ⟨a', ea, vs', ev, rv⟩ := w6.ob _ _ hm
         rw [hn6] at ea
         cases ea
         split at h6
         · rename_i hl
           have hl' : acc.length < sizeLine := by rw [← line_eq]; exact hl
           obtain ⟨w7, s7⟩ := w6.put (m := .lst (acc ++ [y])) (o := .lst (vs' ++ [v])) hn6 (List.getElem?_eq_some_iff.mp hm).1 fun H' st e => ⟨_, e, RepL.step st _ _ (rv.append (.cons r6 .nil))⟩
           exact ⟨vs', ev, by rw [← rv.length]; exact hl', α6, _, w7, st6.tr w6 s7, hn6, h6⟩
         · exact h6.elim
       · exact h6.elim
  · rw [List.drop_eq_nil_of_le (by omega)] at h2
    refine .inl ⟨stop (by omega), ?_⟩
    have h2' : Post (Rep K) K α1 H1 Q E (lcEnd M1.length M2) := h2
    unfold lcEnd at h2'
    split at h2'
    · rename_i acc hm
      obtain ⟨⟨c1, c2, c3⟩, h3⟩ := ifb h2'
      obtain ⟨a', ea, vs', ev, rv⟩ := w2.ob _ _ hm
      rw [hn2] at ea
      cases ea
      have hlen : (M2.take M1.length).length = M1.length := by rw [List.length_take]; omega
      have eM : M2 = M2.take M1.length ++ M2.drop M1.length := (List.take_append_drop _ _).symm
      have wt : Wd K (α2.take (M2.take M1.length).length) (M2.take M1.length) H2 := by
       refine Wd.trim (junk := M2.drop M1.length) (by rw [← eM]; exact w2) fun m hmm => ?_
       rw [hlen]
       exact List.all_eq_true.mp c3 m hmm
      rw [hlen] at wt
      have stt : Step α1 H1 (α2.take M1.length) H2 := s2.trim (by rw [w1.len]; exact Nat.le_refl _)
      refine h3 _ _ _ stt wt (.lst ⟨ev, fun z => ?_⟩ (RepL.trim _ _ _ c2 rv))
      obtain ⟨j, hj, e4⟩ := List.mem_iff_getElem.mp z
      rw [List.getElem_take] at e4
      rw [List.length_take] at hj
      obtain ⟨hi', e5⟩ := List.getElem?_eq_some_iff.mp hn2
      have := (List.getElem_inj w2.nd).mp (e4.trans e5.symm)
      omega
    · exact h2'.elim)
end
section
variable {X : Cx} {E : XK} {elt iter c : Expr} {ifs : List Expr} {scope : Scope} {own : List (Str × Nat)} {pos px spos py : Pos} {x y : Str} {fw : FA} {ft : FT} {fe : FE} {i j : Nat}
theorem pd_lcIf (hc : X.calm = true) (hN : X.N.Nodup) (hi : PDI X E (.Name x px) iter fw) (ok : BlkOk X.N X.env.scope scope own) (hj : j ∈ own.map (·.2))
 (hg : ∀ (s : Shared) (H : Hp) (C : Addr) (cl : List (Str × Addr)) (fp : List Addr), PG (X.blk s H scope (compEnvC scope cl C X.env) fp) (.Name x px) (gName j))
 (ht : ∀ (s : Shared) (H : Hp) (C : Addr) (cl : List (Str × Addr)) (fp : List Addr), PDT (X.blk s H scope (compEnvC scope cl C X.env) fp) E c ft)
 (he : ∀ (s : Shared) (H : Hp) (C : Addr) (cl : List (Str × Addr)) (fp : List Addr), PD (X.blk s H scope (compEnvC scope cl C X.env) fp) E elt fe) (hs : ∀ x, foldedSetIterable iter X.env x = pure x := by intro _; rfl) :
 PD X E (.ListComp elt [⟨.Name x px, iter, [c], 0⟩] scope pos) (pLc fw (fName j) ft fe (own.map (·.2))) := by
 obtain ⟨ti, hi, ri⟩ := hi
 exact ⟨_, pe_lc (te := canE X.K E fe) hc hN hi ok hg (fun s H C cl fp => pts_one (ht s H C cl fp).can) (fun s H C cl fp => (he s H C cl fp).can) hs, r_lc ri g_name (only_name hj) canT_r canE_r⟩
end
theorem repL_ints {K : PySem.W.Frag} {α : List Addr} {H : Hp} : ∀ ns : List Int, RepL K α H (ns.map .int) (ns.map V.int)
 | [] => .nil
 | y :: ys => .cons (.int y) (repL_ints ys)
theorem law_sp {K : PySem.W.Frag} {Φ : List D → PM → Out D} {H : Hp} {a : Addr} {ns : List Int} (hS : SqL K H a (ns.map V.int)) (hΦ : ∃ M, Φ [.rol (ns.map .int)] [] = .ok (.bl true) M) : spP K Φ [.ref a] H (fun v _ => v = .bl true) fun _ _ _ => False := by
 obtain ⟨M, hM⟩ := hΦ
 refine ⟨_, [], [], ⟨List.nodup_nil, rfl, fun i m e => by simp at e⟩, .cons (.rol (ds := ns.map .int) ?_ (repL_ints ns)) .nil, ?_⟩
 · rcases hS with h | h
   · exact .inl ⟨h, by simp⟩
   · exact .inr (.inr h)
 · rw [hM]
   intro v α' H' _ _ r
   cases r
   rfl
theorem walk {l : PySem.W.OpenLaw} {k : Nat} {q : Program} {loose : List Str} {XP : (Str → Option Value) → Heap → Prop} {YP : World → Heap → Prop} {d : DefRec} {K : Params → PySem.W.Frag} {Φ : List D → PM → Out D} (hn : l.most = some 63) (hdf : d.params.defaults = []) (hr : Room k callerA)
 (hY : ∀ (w : World) (h : Heap), YP w h → (K w.params).In h) (hΦ : ∀ ns : List Int, ns.length ≤ 63 → ∃ M, Φ [.rol (ns.map .int)] [] = .ok (.bl true) M)
 (F : ∀ (w : World) (mg : Str → Option Value) (fa : Addr) (h : Heap), (K w.params).In h → h.Ns mainGlobals mg → mg d.name = some (.ref fa) →
  ∃ fd : FuncData, (∀ (s : Shared) (u : Value), BindsTo s fd ⟨[u], []⟩ [("script", u)]) ∧ ∀ base : Heap, (K w.params).In base → base.Ns mainGlobals mg → FnOk l.prog w (K w.params) mg base CX0 k fa fd ["script"] (spP (K w.params) Φ)) :
 PySem.W.WalkO q loose XP YP l.row.toRowW d [] (fun f vs => PySem.call f vs) :=
 L2.walk_of (n := 63) (k := k) (x := "script") (CX := fun _ => CX0) (sp := fun w => spP (K w.params) Φ) hn (by decide) hdf hr hY F (fun _ _ a ns hl _ hS => law_sp hS (hΦ ns hl)) fun _ _ _ _ _ z => z
end Pd
namespace Pd
open PySem L2 PyProof.Rows
structure FunM (K : PySem.W.Frag) (mg : Str → Option Value) (x : Str) (st : Stmt) (ps : List Str) : Prop where
 ex : ∃ f fd, Fun K x x st f fd ∧ mg x = some (.ref f) ∧ ∀ us : List Value, us.length = ps.length → bindArgs fd ⟨us, []⟩ = pure (ps.zip us)
structure Callee (P : Program) (w : World) (K : PySem.W.Frag) (mg : Str → Option Value) (base : Heap) (x : Str) (k : Nat) (Φ : List D → PM → Out D) : Prop where
 ex : ∃ f fd ps, FnOk P w K mg base CX0 k f fd ps (spP K Φ) ∧ mg x = some (.ref f) ∧ PySem.W.keepIn K (.ref f) = true ∧ Binds K fd ps []
section
variable {P : Program} {w : World} {K : PySem.W.Frag} {mg : Str → Option Value} {base : Heap} {x : Str} {st : Stmt} {N ps : List Str} {k : Nat} {Φ : List D → PM → Out D} {g : FS}
theorem Callee.mono {j : Nat} (c : Callee P w K mg base x k Φ) (h : k ≤ j) : Callee P w K mg base x j Φ := by
 obtain ⟨f, fd, ps, h1, h2⟩ := c.ex
 exact ⟨f, fd, ps, h1.mono h, h2⟩
theorem mk_callee (F : FunM K mg x st ps) (S : FnScope N ps (defScope st)) (hl : ∀ ds M, ds.length ≠ ps.length → Φ ds M = .bad)
 (body : ∀ (f : Addr) (cdv : Value) (A : Around) (outer : List PySem.Env) (s : Shared) (H : Hp) (E : XK), Room k (A.deeper (envOfC x (defScope st) s.heap.objs.size f cdv)) → PDB (cxOf CX0 P w K mg base N x (defScope st) f cdv A outer s H E).nox E0 (defBody st) g)
 (fit : ∀ ds M, ds.length = ps.length → (∀ m ∈ M, clMO M.length m = true) → clL M.length ds = true → Fits N g Φ ds M) : Callee P w K mg base x (k + 1) Φ := by
 obtain ⟨f, fd, h1, h2, h3⟩ := F.ex
 exact ⟨f, fd, ps, fn_pd h1 S hl (fun cdv A outer s H E hr => body f cdv A outer s H E hr) fit, h2, h1.kp, Binds.all h3⟩
end
section
variable {X : Cx} {E : XK} {e : Expr} {es : List Expr} {pos p : Pos} {x : Str}
theorem pd_callC {k : Nat} {Φ : List D → PM → Out D} {fargs : FA} (c : Callee X.prog X.w X.K X.mg X.base x k Φ) (hr : Room k X.A) (hg : Gl X x) (ha : PDA X E0 (e :: es) fargs) (hdb : (x == ("__debug__" : Str)) = false := by decide)
 (he : starEach (e :: es) X.env = (false, eval e X.env) :: starEach es X.env := by rfl) (hpl : (backTo pos (starEach es X.env)).any (·.1) = false := by rfl) : PD X E0 (.Call (.Name x p) (e :: es) [] pos) (pCall Φ fargs) := by
 obtain ⟨f, fd, ps, h1, h2, h3, h4⟩ := c.ex
 exact pd_call h1 hr hg h2 h3 h4 pass0 ha hdb he hpl
end
end Pd
namespace Pd
open PySem L2 PyProof.Rows
def fin (n : Nat) (d : D) (M' : PM) : Out D :=
 if n ≤ M'.length ∧ (M'.take n).all (clMO n) = true then
  (if clD n d = true then .ok d (M'.take n) else match d with
   | .adr i => match M'[i]? with
    | some (.lst es) => if clL n es = true then .ok (.lst es) (M'.take n) else .bad
    | _ => .bad
   | _ => .bad)
 else .bad
def run (ar : Nat) (N : List Str) (g : FS) : List D → PM → Out D := fun ds M => if ds.length = ar then (match g (rho0 N ds) M with
 | .ok (.rt d) M' => fin M.length d M'
 | .ok (.nx _) M' => fin M.length .non M'
 | _ => .bad) else .bad
theorem fin_ok {n : Nat} {d r : D} {M' M1 : PM} (h : fin n d M' = .ok r M1) : n ≤ M1.length ∧ Shuts M1 M' d r := by
 unfold fin at h
 split at h
 · rename_i hc
   obtain ⟨h1, h2⟩ := hc
   have hl : (M'.take n).length = n := by rw [List.length_take]; omega
   have hc : ∀ m ∈ M'.take n, clMO (M'.take n).length m = true := fun m hm => by rw [hl]; exact List.all_eq_true.mp h2 m hm
   split at h
   · rename_i hd
     cases h
     exact ⟨by omega, .inr ⟨M'.drop n, (List.take_append_drop _ _).symm, hc, .inl ⟨rfl, by rw [hl]; exact hd⟩⟩⟩
   · rename_i hd
     split at h
     · rename_i i
       split at h
       · rename_i es he
         split at h
         · rename_i hes
           cases h
           refine ⟨by omega, .inr ⟨M'.drop n, (List.take_append_drop _ _).symm, hc, .inr ⟨i, es, rfl, ?_, he, rfl, by rw [hl]; exact hes⟩⟩⟩
           rw [hl]
           simp only [clD, decide_eq_true_eq] at hd
           omega
         · cases h
       · cases h
     · cases h
 · cases h
theorem fin_no {n : Nat} {d : D} {M' M1 : PM} {c : Value} {fs : Option (List (Str × D))} (h : fin n d M' = .exn c fs M1) : False := by
 unfold fin at h
 split at h
 · split at h
   · cases h
   · split at h
     · split at h
       · split at h <;> cases h
       · cases h
     · cases h
 · cases h
theorem fits_run {ar : Nat} {N : List Str} {g : FS} {ds : List D} {M : PM} (hl : ds.length = ar) : Fits N g (run ar N g) ds M := by
 unfold Fits
 cases hr : run ar N g ds M with
 | bad => trivial
 | exn c fs M1 =>
  unfold run at hr
  rw [if_pos hl] at hr
  split at hr
  · exact fin_no hr
  · exact fin_no hr
  · cases hr
 | ok d M1 =>
  unfold run at hr
  rw [if_pos hl] at hr
  split at hr
  · rename_i d' M' he
    obtain ⟨h1, h2⟩ := fin_ok hr
    exact ⟨h1, d', M', .inl he, h2⟩
  · rename_i ρ M' he
    obtain ⟨h1, h2⟩ := fin_ok hr
    exact ⟨h1, .non, M', .inr ⟨ρ, he, rfl⟩, h2⟩
  · cases hr
theorem run_ar {ar : Nat} {N : List Str} {g : FS} {ds : List D} {M : PM} (h : ds.length ≠ ar) : run ar N g ds M = .bad := by
 unfold run
 rw [if_neg h]
section
variable {P : Program} {w : World} {K : PySem.W.Frag} {mg : Str → Option Value} {base : Heap} {x : Str} {st : Stmt} {N ps : List Str} {k : Nat} {Φ : List D → PM → Out D} {g : FS}
theorem callee_run {ar : Nat} (F : FunM K mg x st ps) (S : FnScope N ps (defScope st)) (ha : ps.length = ar)
 (body : ∀ (f : Addr) (cdv : Value) (A : Around) (outer : List PySem.Env) (s : Shared) (H : Hp) (E : XK), Room k (A.deeper (envOfC x (defScope st) s.heap.objs.size f cdv)) → PDB (cxOf CX0 P w K mg base N x (defScope st) f cdv A outer s H E).nox E0 (defBody st) g) : Callee P w K mg base x (k + 1) (run ar N g) :=
 mk_callee F S (fun ds M h => run_ar (by rw [← ha]; exact h)) body fun ds M h _ _ => fits_run (by rw [← ha]; exact h)
theorem law_run {ar : Nat} {f : Addr} {fd : FuncData} (F : Fun K x x st f fd) (S : FnScope N ps (defScope st)) (ha : ps.length = ar)
 (body : ∀ (f : Addr) (cdv : Value) (A : Around) (outer : List PySem.Env) (s : Shared) (H : Hp) (E : XK), Room k (A.deeper (envOfC x (defScope st) s.heap.objs.size f cdv)) → PDB (cxOf CX0 P w K mg base N x (defScope st) f cdv A outer s H E).nox E0 (defBody st) g) : FnOk P w K mg base CX0 (k + 1) f fd ps (spP K (run ar N g)) :=
 fn_pd F S (fun ds M h => run_ar (by rw [← ha]; exact h)) (fun cdv A outer s H E hr => body f cdv A outer s H E hr) fun ds M h _ _ => fits_run (by rw [← ha]; exact h)
theorem law_of {F : FunM K mg "law" st ["script"]} {fa : Addr} (ha : mg "law" = some (.ref fa)) (h : ∀ fd, Fun K "law" "law" st fa fd → ∀ base : Heap, K.In base → base.Ns mainGlobals mg → FnOk P w K mg base CX0 k fa fd ["script"] (spP K Φ)) :
 ∃ fd : FuncData, (∀ (s : Shared) (u : Value), BindsTo s fd ⟨[u], []⟩ [("script", u)]) ∧ ∀ base : Heap, K.In base → base.Ns mainGlobals mg → FnOk P w K mg base CX0 k fa fd ["script"] (spP K Φ) := by
 obtain ⟨f, fd, h1, h2, h3⟩ := F.ex
 rw [ha] at h2
 cases h2
 exact ⟨fd, fun s u => .of_eq (h3 [u] rfl), h fd h1⟩
end
end Pd
namespace Pd
open PySem L2
def T (l : List Nat) : Str := ⟨l.toArray⟩
@[simp] theorem T_list (l : List Nat) : (T l).cps.toList = l := rfl
@[simp] theorem T_len (l : List Nat) : (T l).length = l.length := by simp [T, Str.length]
theorem T_inj {l m : List Nat} (h : T l = T m) : l = m := by
 have := congrArg (fun z : Str => z.cps.toList) h
 exact this
@[simp] theorem T_eq {l m : List Nat} : (T l = T m) ↔ l = m := ⟨T_inj, fun h => by rw [h]⟩
section
variable {M : PM}
theorem gII_ok {C : Int → Int → Bool} {h : Int → Int → D} {i j : Int} (hc : C i j = true) : gII C h M (.int i) (.int j) = .ok (h i j) M := by
 show (if C i j = true then Out.ok (h i j) M else Out.bad) = _
 rw [if_pos hc]
theorem gor_ok {g g' : PM → D → D → Out D} {a b d : D} {M' : PM} (h : g M a b = .ok d M') : gor g g' M a b = .ok d M' := by
 unfold gor
 rw [h]
@[simp] theorem e_add (i j : Int) : gAdd M (.int i) (.int j) = .ok (.int (i + j)) M := gor_ok (gII_ok rfl)
@[simp] theorem e_sub (i j : Int) : gSub M (.int i) (.int j) = .ok (.int (i - j)) M := gII_ok rfl
@[simp] theorem e_augAdd (i j : Int) : gII cTrue (fun i j => .int (i + j)) M (.int i) (.int j) = .ok (.int (i + j)) M := gII_ok rfl
theorem e_mul {i j : Int} (h : cMul i j = true) : gMul M (.int i) (.int j) = .ok (.int (i * j)) M := gII_ok h
theorem e_fdiv {i j : Int} (h : 0 < j ∧ j < 1073741824) : gFdiv M (.int i) (.int j) = .ok (.int (i / j)) M := gor_ok (gII_ok (by unfold cDiv; simp [h.1, h.2]))
theorem e_mod {i j : Int} (h : 0 < j) : gMod M (.int i) (.int j) = .ok (.int (i % j)) M := gor_ok (gII_ok (by unfold cPos; simp [h]))
@[simp] theorem e_lt (i j : Int) : gLt M (.int i) (.int j) = .ok (.bl (decide (i < j))) M := gII_ok rfl
@[simp] theorem e_gt (i j : Int) : gGt M (.int i) (.int j) = .ok (.bl (decide (j < i))) M := gII_ok rfl
@[simp] theorem e_ge (i j : Int) : gGe M (.int i) (.int j) = .ok (.bl (decide (j ≤ i))) M := gII_ok rfl
theorem ixN_nat {n k : Nat} (h : k < n) : ixN n (k : Int) = some k := by
 unfold ixN
 rw [if_pos (by omega), if_pos (by omega)]
 simp
theorem atI_ok {α : Type} {xs : List α} {k : Nat} (h : k < xs.length) : atI xs (k : Int) = some xs[k] := by
 unfold atI
 rw [ixN_nat h]
 simp [h]
theorem gIx_seq {a d : D} {ds : List D} {i : Int} (ha : seqOf M a = some ds) (hd : atI ds i = some d) : gIx M a (.int i) = .ok d M := by
 have : gIx M a (.int i) = (match seqOf M a with | some ds => (match atI ds i with | some d => Out.ok d M | none => .bad) | none => .bad) := by
  cases a <;> first | rfl | cases ha
 rw [this, ha]
 show (match atI ds i with | some d => Out.ok d M | none => .bad) = _
 rw [hd]
@[simp] theorem seq_tup (ds : List D) : seqOf M (.tup ds) = some ds := rfl
@[simp] theorem seq_lst (ds : List D) : seqOf M (.lst ds) = some ds := rfl
@[simp] theorem seq_rol (ds : List D) : seqOf M (.rol ds) = some ds := rfl
theorem seq_adr {i : Nat} {ds : List D} (h : M[i]? = some (.lst ds)) : seqOf M (.adr i) = some ds := by
 unfold seqOf
 simp only [h]
theorem e_len {a : D} {ds : List D} (h : seqOf M a = some ds) : bLen M [a] = .ok (.int (ds.length : Int)) M := by
 have : bLen M [a] = (match seqOf M a with | some ds => Out.ok (D.int ds.length) M | none => .bad) := by
  cases a <;> first | rfl | cases h
 rw [this, h]
@[simp] theorem e_abs (i : Int) : bAbs M [.int i] = .ok (.int (if i < 0 then -i else i)) M := rfl
@[simp] theorem e_intI (i : Int) : bInt M [.int i] = .ok (.int i) M := rfl
@[simp] theorem e_tupT (ds : List D) : bTuple M [.tup ds] = .ok (.tup ds) M := rfl
@[simp] theorem i_tup_bool (ds : List D) : bIsi M [.tup ds, .raw (.ty "bool")] = .ok (.bl false) M := rfl
@[simp] theorem i_tup_int (ds : List D) : bIsi M [.tup ds, .raw (.ty "int")] = .ok (.bl false) M := rfl
@[simp] theorem i_tup_str (ds : List D) : bIsi M [.tup ds, .raw (.ty "str")] = .ok (.bl false) M := rfl
@[simp] theorem i_tup_tuple (ds : List D) : bIsi M [.tup ds, .raw (.ty "tuple")] = .ok (.bl true) M := rfl
@[simp] theorem i_tup_list (ds : List D) : bIsi M [.tup ds, .raw (.ty "list")] = .ok (.bl false) M := rfl
@[simp] theorem i_tup_dict (ds : List D) : bIsi M [.tup ds, .raw (.ty "dict")] = .ok (.bl false) M := rfl
@[simp] theorem is_tup (ds : List D) : gIs' M (.tup ds) .non = .ok (.bl false) M := rfl
@[simp] theorem isNot_tup (ds : List D) : gIsNot' M (.tup ds) .non = .ok (.bl true) M := rfl
@[simp] theorem i_lst_bool (ds : List D) : bIsi M [.lst ds, .raw (.ty "bool")] = .ok (.bl false) M := rfl
@[simp] theorem i_lst_int (ds : List D) : bIsi M [.lst ds, .raw (.ty "int")] = .ok (.bl false) M := rfl
@[simp] theorem i_lst_str (ds : List D) : bIsi M [.lst ds, .raw (.ty "str")] = .ok (.bl false) M := rfl
@[simp] theorem i_lst_tuple (ds : List D) : bIsi M [.lst ds, .raw (.ty "tuple")] = .ok (.bl false) M := rfl
@[simp] theorem i_lst_list (ds : List D) : bIsi M [.lst ds, .raw (.ty "list")] = .ok (.bl true) M := rfl
@[simp] theorem i_lst_dict (ds : List D) : bIsi M [.lst ds, .raw (.ty "dict")] = .ok (.bl false) M := rfl
@[simp] theorem is_lst (ds : List D) : gIs' M (.lst ds) .non = .ok (.bl false) M := rfl
@[simp] theorem isNot_lst (ds : List D) : gIsNot' M (.lst ds) .non = .ok (.bl true) M := rfl
@[simp] theorem i_rol_bool (ds : List D) : bIsi M [.rol ds, .raw (.ty "bool")] = .ok (.bl false) M := rfl
@[simp] theorem i_rol_int (ds : List D) : bIsi M [.rol ds, .raw (.ty "int")] = .ok (.bl false) M := rfl
@[simp] theorem i_rol_str (ds : List D) : bIsi M [.rol ds, .raw (.ty "str")] = .ok (.bl false) M := rfl
@[simp] theorem i_rol_tuple (ds : List D) : bIsi M [.rol ds, .raw (.ty "tuple")] = .ok (.bl false) M := rfl
@[simp] theorem i_rol_list (ds : List D) : bIsi M [.rol ds, .raw (.ty "list")] = .ok (.bl true) M := rfl
@[simp] theorem i_rol_dict (ds : List D) : bIsi M [.rol ds, .raw (.ty "dict")] = .ok (.bl false) M := rfl
@[simp] theorem is_rol (ds : List D) : gIs' M (.rol ds) .non = .ok (.bl false) M := rfl
@[simp] theorem isNot_rol (ds : List D) : gIsNot' M (.rol ds) .non = .ok (.bl true) M := rfl
@[simp] theorem i_bl_bool (x : Bool) : bIsi M [.bl x, .raw (.ty "bool")] = .ok (.bl true) M := rfl
@[simp] theorem i_bl_int (x : Bool) : bIsi M [.bl x, .raw (.ty "int")] = .ok (.bl true) M := rfl
@[simp] theorem i_bl_str (x : Bool) : bIsi M [.bl x, .raw (.ty "str")] = .ok (.bl false) M := rfl
@[simp] theorem i_bl_tuple (x : Bool) : bIsi M [.bl x, .raw (.ty "tuple")] = .ok (.bl false) M := rfl
@[simp] theorem i_bl_list (x : Bool) : bIsi M [.bl x, .raw (.ty "list")] = .ok (.bl false) M := rfl
@[simp] theorem i_bl_dict (x : Bool) : bIsi M [.bl x, .raw (.ty "dict")] = .ok (.bl false) M := rfl
@[simp] theorem is_bl (x : Bool) : gIs' M (.bl x) .non = .ok (.bl false) M := rfl
@[simp] theorem isNot_bl (x : Bool) : gIsNot' M (.bl x) .non = .ok (.bl true) M := rfl
@[simp] theorem i_int_bool (x : Int) : bIsi M [.int x, .raw (.ty "bool")] = .ok (.bl false) M := rfl
@[simp] theorem i_int_int (x : Int) : bIsi M [.int x, .raw (.ty "int")] = .ok (.bl true) M := rfl
@[simp] theorem i_int_str (x : Int) : bIsi M [.int x, .raw (.ty "str")] = .ok (.bl false) M := rfl
@[simp] theorem i_int_tuple (x : Int) : bIsi M [.int x, .raw (.ty "tuple")] = .ok (.bl false) M := rfl
@[simp] theorem i_int_list (x : Int) : bIsi M [.int x, .raw (.ty "list")] = .ok (.bl false) M := rfl
@[simp] theorem i_int_dict (x : Int) : bIsi M [.int x, .raw (.ty "dict")] = .ok (.bl false) M := rfl
@[simp] theorem is_int (x : Int) : gIs' M (.int x) .non = .ok (.bl false) M := rfl
@[simp] theorem isNot_int (x : Int) : gIsNot' M (.int x) .non = .ok (.bl true) M := rfl
@[simp] theorem i_str_bool (x : Str) : bIsi M [.str x, .raw (.ty "bool")] = .ok (.bl false) M := rfl
@[simp] theorem i_str_int (x : Str) : bIsi M [.str x, .raw (.ty "int")] = .ok (.bl false) M := rfl
@[simp] theorem i_str_str (x : Str) : bIsi M [.str x, .raw (.ty "str")] = .ok (.bl true) M := rfl
@[simp] theorem i_str_tuple (x : Str) : bIsi M [.str x, .raw (.ty "tuple")] = .ok (.bl false) M := rfl
@[simp] theorem i_str_list (x : Str) : bIsi M [.str x, .raw (.ty "list")] = .ok (.bl false) M := rfl
@[simp] theorem i_str_dict (x : Str) : bIsi M [.str x, .raw (.ty "dict")] = .ok (.bl false) M := rfl
@[simp] theorem is_str (x : Str) : gIs' M (.str x) .non = .ok (.bl false) M := rfl
@[simp] theorem isNot_str (x : Str) : gIsNot' M (.str x) .non = .ok (.bl true) M := rfl
@[simp] theorem i_non_bool  : bIsi M [.non, .raw (.ty "bool")] = .ok (.bl false) M := rfl
@[simp] theorem i_non_int  : bIsi M [.non, .raw (.ty "int")] = .ok (.bl false) M := rfl
@[simp] theorem i_non_str  : bIsi M [.non, .raw (.ty "str")] = .ok (.bl false) M := rfl
@[simp] theorem i_non_tuple  : bIsi M [.non, .raw (.ty "tuple")] = .ok (.bl false) M := rfl
@[simp] theorem i_non_list  : bIsi M [.non, .raw (.ty "list")] = .ok (.bl false) M := rfl
@[simp] theorem i_non_dict  : bIsi M [.non, .raw (.ty "dict")] = .ok (.bl false) M := rfl
@[simp] theorem is_non : gIs' M .non .non = .ok (.bl true) M := rfl
@[simp] theorem isNot_non : gIsNot' M .non .non = .ok (.bl false) M := rfl
mutual
theorem clD_mono {n m : Nat} (h : n ≤ m) : ∀ d : D, clD n d = true → clD m d = true
 | .adr i, c => by simp only [clD, decide_eq_true_eq] at c ⊢; omega
 | .tup ds, c => by simp only [clD] at c ⊢; exact clL_mono h ds c
 | .lst ds, c => by simp only [clD] at c ⊢; exact clL_mono h ds c
 | .rol ds, c => by simp only [clD] at c ⊢; exact clL_mono h ds c
 | .xcp _ _ _ ds, c => by simp only [clD] at c ⊢; exact clL_mono h ds c
 | .rod _ ds, c => by simp only [clD] at c ⊢; exact clL_mono h ds c
 | .rot _ ds, c => by simp only [clD] at c ⊢; exact clL_mono h ds c
 | .non, _ => by simp only [clD]
 | .bl _, _ => by simp only [clD]
 | .int _, _ => by simp only [clD]
 | .str _, _ => by simp only [clD]
 | .raw _, _ => by simp only [clD]
theorem clL_mono {n m : Nat} (h : n ≤ m) : ∀ ds : List D, clL n ds = true → clL m ds = true
 | [], _ => by simp only [clL]
 | d :: ds, c => by
  simp only [clL, Bool.and_eq_true] at c ⊢
  exact ⟨clD_mono h d c.1, clL_mono h ds c.2⟩
end
theorem clMO_mono {n m : Nat} (h : n ≤ m) (o : MO) (c : clMO n o = true) : clMO m o = true := by
 cases o with
 | lst ds => exact clL_mono h ds c
 | ins C fs => exact clL_mono h _ c
 | dct kvs => exact clL_mono h _ c
 | dcu P w kvs => exact clL_mono h _ c
 | err C n fs => exact clL_mono h _ c
def WfM (M : PM) : Prop := M.all (clMO M.length) = true
theorem WfM.snoc {M : PM} (w : WfM M) {m : MO} (h : clMO (M.length + 1) m = true) : WfM (M ++ [m]) := by
 unfold WfM at w ⊢
 rw [List.all_append, List.length_append]
 simp only [List.length_cons, List.length_nil, List.all_cons, List.all_nil, Bool.and_true, Bool.and_eq_true]
 refine ⟨List.all_eq_true.mpr fun x hx => clMO_mono (by omega) x (List.all_eq_true.mp w x hx), ?_⟩
 simpa using h
theorem WfM.set {M : PM} (w : WfM M) {i : Nat} {m : MO} (h : clMO M.length m = true) : WfM (M.set i m) := by
 unfold WfM at w ⊢
 rw [List.length_set]
 refine List.all_eq_true.mpr fun x hx => ?_
 rcases List.mem_or_eq_of_mem_set hx with e | e
 · exact List.all_eq_true.mp w x e
 · rw [e]; exact h
theorem fin_ok' {n : Nat} {d : D} {M1 J : PM} (hl : M1.length = n) (hM : M1.all (clMO n) = true) (hd : clD n d = true) : fin n d (M1 ++ J) = .ok d M1 := by
 unfold fin
 have e : (M1 ++ J).take n = M1 := by rw [← hl]; simp
 rw [e, if_pos ⟨by rw [List.length_append]; omega, hM⟩, if_pos hd]
theorem run_rt {ar : Nat} {N : List Str} {g : FS} {ds : List D} {M M1 J : PM} {d : D} (ha : ds.length = ar) (hg : g (rho0 N ds) M = .ok (.rt d) (M1 ++ J)) (hl : M1.length = M.length) (hM : M1.all (clMO M.length) = true) (hd : clD M.length d = true) : run ar N g ds M = .ok d M1 := by
 unfold run
 rw [if_pos ha, hg]
 exact fin_ok' hl hM hd
theorem run_pure0 {ar : Nat} {N : List Str} {g : FS} {ds : List D} {M : PM} {d : D} (ha : ds.length = ar) (w : WfM M) (hg : g (rho0 N ds) M = .ok (.rt d) M) (hd : clD M.length d = true) : run ar N g ds M = .ok d M := run_rt (J := []) ha (by rw [hg, List.append_nil]) rfl w hd
end
end Pd
namespace Pd
open PySem L2
def gNext2 : FS :=
 sSeq (sAsg (pOp gAdd (pOp gIx (pVar 0) (pC (.int 0))) (pC (.int 1))) (fSub (pVar 0) (pC (.int 0))))
 (sSeq (sIf (pTest (pOp gGe (pVar 3) (pOp gPow (pC (.int 10)) (pC (.int 18))))) (sSeq (sAsg (pOp gFdiv (pVar 3) (pVar 2)) (fSub (pVar 0) (pC (.int 1))))
  (sRet (pOp gMod (pCB bInt (aCons (pVar 3) (aNil))) (pVar 2)))) (sNext))
 (sSeq (sAsg (pOp gMod (pCB bInt (aCons (pOp gAdd (pOp gAdd (pOp gMul (pOp gIx (pVar 0) (pC (.int 2))) (pC (.int 48271))) (pOp gMul (pVar 3) (pC (.int 69621)))) (pC (.int 12345))) (aNil))) (pC (.int 2147483647))) (fSub (pVar 0) (pC (.int 2))))
 (sRet (pOp gMod (pCB bInt (aCons (pOp gAdd (pOp gFdiv (pOp gIx (pVar 0) (pC (.int 2))) (pC (.int 7))) (pOp gFdiv (pOp gMul (pOp gIx (pVar 0) (pC (.int 2))) (pOp gIx (pVar 0) (pC (.int 2)))) (pC (.int 65537)))) (aNil))) (pVar 2)))))
def gNext : FS :=
 sSeq (sIf (pTest (pOp gGt (pOp gIx (pVar 0) (pC (.int 1))) (pC (.int 0)))) (sSeq (sAsg (pOp gMod (pCB bInt (aCons (pOp gIx (pVar 0) (pC (.int 1))) (aNil))) (pVar 2)) (fName 4))
  (sSeq (sAsg (pOp gFdiv (pCB bInt (aCons (pOp gIx (pVar 0) (pC (.int 1))) (aNil))) (pVar 2)) (fSub (pVar 0) (pC (.int 1))))
  (sRet (pVar 4)))) (sNext))
 (sSeq (sAsg (pC (.int 0)) (fName 3))
 (sSeq (sIf (pTest (pOp gLt (pOp gIx (pVar 0) (pC (.int 0))) (pCB bLen (aCons (pVar 1) (aNil))))) (sAsg (pCB bAbs (aCons (pCB bInt (aCons (pOp gIx (pVar 1) (pOp gIx (pVar 0) (pC (.int 0)))) (aNil))) (aNil))) (fName 3)) (sNext))
 gNext2))
def four : Bool := true
def Rst (m : MO) : Prop := ∃ (a b c : Int) (e : List D), m = .lst (.int a :: .int b :: .int c :: e) ∧ clL 0 e = true ∧ 0 ≤ a ∧ 0 ≤ c ∧ c < 2147483647 ∧ (four = true → ∃ (f : Int) (r : List D), e = .int f :: r)
theorem Rst.cl {m : MO} (h : Rst m) (n : Nat) : clMO n m = true := by
 obtain ⟨a, b, c, e, rfl, he, _⟩ := h
 have := clL_mono (Nat.zero_le n) _ he
 simp [clMO, clL, clD, this]
theorem Rst.start : Rst (.lst [.int 0, .int 0, .int 1, .int 0]) := ⟨0, 0, 1, [.int 0], rfl, rfl, by omega, by omega, by omega, fun _ => ⟨0, [], rfl⟩⟩
section
variable {M : PM} {i : Nat}
theorem set_get (hi : i < M.length) (m : MO) : (M.set i m)[i]? = some m := by simp [hi]
theorem put_at {ds : List D} (hi : i < M.length) {n : Nat} (hn : n < ds.length) (v : D) : putL (M.set i (.lst ds)) (.adr i) (.int (n : Int)) v = .ok () (M.set i (.lst (ds.set n v))) := by
 unfold putL
 simp only [set_get hi, ixN_nat hn, List.set_set]
theorem st_ix {ds : List D} (hi : i < M.length) {n : Nat} (hn : n < ds.length) : gIx (M.set i (.lst ds)) (.adr i) (.int (n : Int)) = .ok ds[n] (M.set i (.lst ds)) :=
 gIx_seq (seq_adr (set_get hi _)) (atI_ok hn)
theorem p18 : gPow M (.int 10) (.int 18) = .ok (.int 1000000000000000000) M := gII_ok (C := cPow) (h := fun i j => .int (i ^ j.toNat)) (i := 10) (j := 18) (by decide)
theorem mulR {x k : Int} (h1 : -18446744073709551616 < k) (h2 : k < 18446744073709551616) : gMul M (.int x) (.int k) = .ok (.int (x * k)) M := e_mul (by
 unfold cMul
 rw [decide_eq_true h1, decide_eq_true h2]
 exact Bool.or_true _)
theorem next1 {ns : List Int} {many a b c : Int} {e : List D} (hi : i < M.length) (hm : 0 < many ∧ many < 1073741824) (hb : 0 < b) :
 gNext [some (.adr i), some (.rol (ns.map .int)), some (.int many), none, none] (M.set i (.lst (.int a :: .int b :: .int c :: e))) = .ok (.rt (.int (b % many))) (M.set i (.lst (.int a :: .int (b / many) :: .int c :: e))) := by
 have h1 : gIx (M.set i (.lst (.int a :: .int b :: .int c :: e))) (.adr i) (.int 1) = .ok (.int b) _ := st_ix (n := 1) hi (by simp)
 have h2 := e_mod (M := M.set i (.lst (.int a :: .int b :: .int c :: e))) (i := b) hm.1
 have h3 := e_fdiv (M := M.set i (.lst (.int a :: .int b :: .int c :: e))) (i := b) hm
 have h4 : putL (M.set i (.lst (.int a :: .int b :: .int c :: e))) (.adr i) (.int 1) (.int (b / many)) = .ok () (M.set i (.lst (.int a :: .int (b / many) :: .int c :: e))) := put_at (n := 1) hi (by simp) _
 unfold gNext
 simp -implicitDefEqProofs [sSeq, sIf, sAsg, sRet, sNext, fName, fSub, pVar, pC, pOp, pTest, pCB, aCons, aNil, asB, h1, h2, h3, h4, hb]
theorem next2 {x1 x2 x4 : Option D} {many a b c v : Int} {e : List D} (hi : i < M.length) (hm : 0 < many ∧ many < 1073741824) (hc : 0 ≤ c ∧ c < 2147483647) :
 ∃ (r a' b' c' : Int), gNext2 [some (.adr i), x1, some (.int many), some (.int v), x4] (M.set i (.lst (.int a :: .int b :: .int c :: e))) = .ok (.rt (.int r)) (M.set i (.lst (.int a' :: .int b' :: .int c' :: e))) ∧ a' = a + 1 ∧ 0 ≤ c' ∧ c' < 2147483647 ∧ 0 ≤ r ∧ r < many := by
 have h1 : gIx (M.set i (.lst (.int a :: .int b :: .int c :: e))) (.adr i) (.int 0) = .ok (.int a) _ := st_ix (n := 0) hi (by simp)
 have h2 : putL (M.set i (.lst (.int a :: .int b :: .int c :: e))) (.adr i) (.int 0) (.int (a + 1)) = .ok () (M.set i (.lst (.int (a + 1) :: .int b :: .int c :: e))) := put_at (n := 0) hi (by simp) _
 have h3 : ∀ M : PM, gPow M (.int 10) (.int 18) = .ok (.int 1000000000000000000) M := fun M => p18
 have h4 : gFdiv (M.set i (.lst (.int (a + 1) :: .int b :: .int c :: e))) (.int v) (.int many) = .ok (.int (v / many)) _ := e_fdiv hm
 have h5 : putL (M.set i (.lst (.int (a + 1) :: .int b :: .int c :: e))) (.adr i) (.int 1) (.int (v / many)) = .ok () (M.set i (.lst (.int (a + 1) :: .int (v / many) :: .int c :: e))) := put_at (n := 1) hi (by simp) _
 have h6 : ∀ (M : PM) (x : Int), gMod M (.int x) (.int many) = .ok (.int (x % many)) M := fun M x => e_mod hm.1
 by_cases hv : 1000000000000000000 ≤ v
 · refine ⟨v % many, a + 1, v / many, c, ?_, rfl, hc.1, hc.2, Int.emod_nonneg _ (by omega), Int.emod_lt_of_pos _ hm.1⟩
   unfold gNext2
   simp -implicitDefEqProofs only [sSeq, sIf, sAsg, sRet, sNext, fName, fSub, pVar, pC, pOp, pTest, pCB, aCons, aNil, asB, h1, h2, h3, h4, h5, h6, Out.bind_ok, List.getElem?_cons_zero, List.getElem?_cons_succ, e_add, e_ge, e_intI, decide_eq_true hv, if_true]
 · have h7 : gIx (M.set i (.lst (.int (a + 1) :: .int b :: .int c :: e))) (.adr i) (.int 2) = .ok (.int c) _ := st_ix (n := 2) hi (by simp)
   have h8 : ∀ (M : PM) (x : Int), gMul M (.int x) (.int 48271) = .ok (.int (x * 48271)) M := fun M x => mulR (by decide) (by decide)
   have h9 : ∀ (M : PM) (x : Int), gMul M (.int x) (.int 69621) = .ok (.int (x * 69621)) M := fun M x => mulR (by decide) (by decide)
   have h10 : ∀ (M : PM) (x : Int), gMod M (.int x) (.int 2147483647) = .ok (.int (x % 2147483647)) M := fun M x => e_mod (by decide)
   obtain ⟨c', hc'⟩ : ∃ c', c' = (c * 48271 + v * 69621 + 12345) % 2147483647 := ⟨_, rfl⟩
   have q1 : 0 ≤ c' := by rw [hc']; exact Int.emod_nonneg _ (by decide)
   have q2 : c' < 2147483647 := by rw [hc']; exact Int.emod_lt_of_pos _ (by decide)
   have h11 : putL (M.set i (.lst (.int (a + 1) :: .int b :: .int c :: e))) (.adr i) (.int 2) (.int c') = .ok () (M.set i (.lst (.int (a + 1) :: .int b :: .int c' :: e))) := put_at (n := 2) hi (by simp) _
   have h12 : gIx (M.set i (.lst (.int (a + 1) :: .int b :: .int c' :: e))) (.adr i) (.int 2) = .ok (.int c') _ := st_ix (n := 2) hi (by simp)
   have h13 : ∀ (M : PM), gMul M (.int c') (.int c') = .ok (.int (c' * c')) M := fun M => mulR (by omega) (by omega)
   have h14 : ∀ (M : PM) (x : Int), gFdiv M (.int x) (.int 7) = .ok (.int (x / 7)) M := fun M x => e_fdiv (by decide)
   have h15 : ∀ (M : PM) (x : Int), gFdiv M (.int x) (.int 65537) = .ok (.int (x / 65537)) M := fun M x => e_fdiv (by decide)
   refine ⟨(c' / 7 + c' * c' / 65537) % many, a + 1, b, c', ?_, rfl, q1, q2, Int.emod_nonneg _ (by omega), Int.emod_lt_of_pos _ hm.1⟩
   unfold gNext2
   simp -implicitDefEqProofs only [sSeq, sIf, sAsg, sRet, sNext, fName, fSub, pVar, pC, pOp, pTest, pCB, aCons, aNil, asB, h1, h2, h3, h6, h7, h8, h9, h10, ← hc', h11, h12, h13, h14, h15, Out.bind_ok, List.getElem?_cons_zero, List.getElem?_cons_succ, e_add, e_ge, e_intI, decide_eq_false hv, Bool.false_eq_true, if_false]
theorem next3 {ns : List Int} {many a b c : Int} {e : List D} (hi : i < M.length) (hm : 0 < many ∧ many < 1073741824) (ha : 0 ≤ a) (hc : 0 ≤ c ∧ c < 2147483647) (hb : ¬ 0 < b) :
 ∃ (r a' b' c' : Int), gNext [some (.adr i), some (.rol (ns.map .int)), some (.int many), none, none] (M.set i (.lst (.int a :: .int b :: .int c :: e))) = .ok (.rt (.int r)) (M.set i (.lst (.int a' :: .int b' :: .int c' :: e))) ∧ a' = a + 1 ∧ 0 ≤ c' ∧ c' < 2147483647 ∧ 0 ≤ r ∧ r < many := by
 have h1 : gIx (M.set i (.lst (.int a :: .int b :: .int c :: e))) (.adr i) (.int 1) = .ok (.int b) _ := st_ix (n := 1) hi (by simp)
 have h2 : gIx (M.set i (.lst (.int a :: .int b :: .int c :: e))) (.adr i) (.int 0) = .ok (.int a) _ := st_ix (n := 0) hi (by simp)
 have h3 : bLen (M.set i (.lst (.int a :: .int b :: .int c :: e))) [.rol (ns.map .int)] = .ok (.int (ns.length : Int)) (M.set i (.lst (.int a :: .int b :: .int c :: e))) := by
  rw [e_len (ds := ns.map .int) rfl, List.length_map]
 obtain ⟨v, hv⟩ : ∃ v : Int, (sIf (pTest (pOp gLt (pOp gIx (pVar 0) (pC (.int 0))) (pCB bLen (aCons (pVar 1) (aNil))))) (sAsg (pCB bAbs (aCons (pCB bInt (aCons (pOp gIx (pVar 1) (pOp gIx (pVar 0) (pC (.int 0)))) (aNil))) (aNil))) (fName 3)) (sNext)) [some (.adr i), some (.rol (ns.map .int)), some (.int many), some (.int 0), none] (M.set i (.lst (.int a :: .int b :: .int c :: e))) = .ok (.nx [some (.adr i), some (.rol (ns.map .int)), some (.int many), some (.int v), none]) (M.set i (.lst (.int a :: .int b :: .int c :: e))) := by
  by_cases hl : a < ns.length
  · obtain ⟨n, rfl⟩ := Int.eq_ofNat_of_zero_le ha
    have hn : n < ns.length := by omega
    have h4 : gIx (M.set i (.lst (.int (n : Int) :: .int b :: .int c :: e))) (.rol (ns.map .int)) (.int (n : Int)) = .ok (.int ns[n]) _ := gIx_seq (seq_rol _) (by rw [atI_ok (by simpa using hn)]; simp)
    refine ⟨if ns[n] < 0 then -ns[n] else ns[n], ?_⟩
    simp -implicitDefEqProofs only [sIf, sAsg, fName, pVar, pC, pOp, pTest, pCB, aCons, aNil, asB, h2, h3, h4, Out.bind_ok, List.getElem?_cons_zero, List.getElem?_cons_succ, e_lt, e_abs, e_intI, decide_eq_true hl, if_true, List.set_cons_zero, List.set_cons_succ]
  · refine ⟨0, ?_⟩
    simp -implicitDefEqProofs only [sIf, sNext, fName, pVar, pC, pOp, pTest, pCB, aCons, aNil, asB, h2, h3, Out.bind_ok, List.getElem?_cons_zero, List.getElem?_cons_succ, e_lt, decide_eq_false hl, Bool.false_eq_true, if_false]
 obtain ⟨r, a', b', c', h5, h6⟩ := next2 (M := M) (i := i) (x1 := some (.rol (ns.map .int))) (x2 := none) (x4 := none) (a := a) (b := b) (e := e) (v := v) hi hm hc
 refine ⟨r, a', b', c', ?_, h6⟩
 unfold gNext
 rw [show sSeq = sSeq from rfl]
 have h7 : sIf (pTest (pOp gGt (pOp gIx (pVar 0) (pC (.int 1))) (pC (.int 0)))) (sSeq (sAsg (pOp gMod (pCB bInt (aCons (pOp gIx (pVar 0) (pC (.int 1))) (aNil))) (pVar 2)) (fName 4))
  (sSeq (sAsg (pOp gFdiv (pCB bInt (aCons (pOp gIx (pVar 0) (pC (.int 1))) (aNil))) (pVar 2)) (fSub (pVar 0) (pC (.int 1))))
  (sRet (pVar 4)))) (sNext) [some (.adr i), some (.rol (ns.map .int)), some (.int many), none, none] (M.set i (.lst (.int a :: .int b :: .int c :: e))) = .ok (.nx [some (.adr i), some (.rol (ns.map .int)), some (.int many), none, none]) (M.set i (.lst (.int a :: .int b :: .int c :: e))) := by
  simp -implicitDefEqProofs only [sIf, sNext, pVar, pC, pOp, pTest, asB, h1, Out.bind_ok, List.getElem?_cons_zero, List.getElem?_cons_succ, e_gt, decide_eq_false hb, Bool.false_eq_true, if_false]
 have sq : ∀ {f g : FS} {ρ ρ' : Rho} {M M' : PM}, f ρ M = .ok (.nx ρ') M' → sSeq f g ρ M = g ρ' M' := fun h => by unfold sSeq; rw [h]; rfl
 rw [sq h7]
 have h8 : sAsg (pC (.int 0)) (fName 3) [some (.adr i), some (.rol (ns.map .int)), some (.int many), none, none] (M.set i (.lst (.int a :: .int b :: .int c :: e))) = .ok (.nx [some (.adr i), some (.rol (ns.map .int)), some (.int many), some (.int 0), none]) (M.set i (.lst (.int a :: .int b :: .int c :: e))) := rfl
 rw [sq h8, sq hv, h5]
theorem next_ok {N : List Str} (hN : N.length = 5) {ns : List Int} {many : Int} {m : MO} (w : WfM M) (hi : i < M.length) (hm : 0 < many ∧ many < 1073741824) (hs : Rst m) :
 ∃ (r : Int) (m' : MO), run 3 N gNext [.adr i, .rol (ns.map .int), .int many] (M.set i m) = .ok (.int r) (M.set i m') ∧ 0 ≤ r ∧ r < many ∧ Rst m' := by
 obtain ⟨a, b, c, e, rfl, he, ha, hc, hc2, h7⟩ := hs
 have e0 : rho0 N [.adr i, .rol (ns.map .int), .int many] = [some (.adr i), some (.rol (ns.map .int)), some (.int many), none, none] := by
  unfold rho0
  rw [hN]
  rfl
 have fin : ∀ (r : Int) (m' : MO), Rst m' → gNext [some (.adr i), some (.rol (ns.map .int)), some (.int many), none, none] (M.set i (.lst (.int a :: .int b :: .int c :: e))) = .ok (.rt (.int r)) (M.set i m') → run 3 N gNext [.adr i, .rol (ns.map .int), .int many] (M.set i (.lst (.int a :: .int b :: .int c :: e))) = .ok (.int r) (M.set i m') := fun r m' hm' h => by
  refine run_rt (J := []) rfl (by rw [e0, List.append_nil, h]) (by simp) ?_ rfl
  have := WfM.set (i := i) w (hm'.cl M.length)
  unfold WfM at this
  simpa using this
 by_cases hb : 0 < b
 · exact ⟨b % many, .lst (.int a :: .int (b / many) :: .int c :: e), fin _ _ ⟨a, b / many, c, e, rfl, he, ha, hc, hc2, h7⟩ (next1 hi hm hb), Int.emod_nonneg _ (by omega), Int.emod_lt_of_pos _ hm.1, a, b / many, c, e, rfl, he, ha, hc, hc2, h7⟩
 · obtain ⟨r, a', b', c', h1, h2, h3, h4, h5, h6⟩ := next3 (M := M) (e := e) hi hm ha ⟨hc, hc2⟩ hb (ns := ns)
   have hr : Rst (.lst (.int a' :: .int b' :: .int c' :: e)) := ⟨a', b', c', e, rfl, he, by omega, h3, h4, h7⟩
   exact ⟨r, _, fin _ _ hr h1, h5, h6, hr⟩
end
end Pd
namespace Pd
open PySem L2
end Pd
namespace L2
open PySem PySem.Spec PyProof.Rows
end L2
namespace Pd
open PySem L2
theorem repL_rev {K : PySem.W.Frag} {α : List Addr} {H : Hp} : ∀ {ds : List D} {xs : List V}, RepL K α H ds xs → RepL K α H ds.reverse xs.reverse
 | _, _, .nil => .nil
 | _, _, .cons r t => by
  rw [List.reverse_cons, List.reverse_cons]
  exact (repL_rev t).append (.cons r .nil)
end Pd
namespace L2
open PySem PySem.Spec PyProof.Rows
end L2
namespace Pd
open PySem L2
end Pd
namespace Pd
open PySem L2
end Pd
namespace Pd
open PySem L2 PyProof.Rows
def clF (n : Nat) : Option (List (Str × D)) → Bool
 | none => true
 | some fs => clL n (fs.map (·.2))
def okV : V → Prop
 | .int i => 0 ≤ i ∧ i.natAbs < 18446744073709551616
 | .str z => z.length ≤ 1000 ∧ ∀ c ∈ z.cps.toList, c < 1114112
 | _ => False
def okD : D → Bool
 | .int i => decide (0 ≤ i ∧ i.natAbs < 18446744073709551616)
 | .str z => decide (z.length ≤ 1000 ∧ ∀ c ∈ z.cps.toList, c < 1114112)
 | _ => false
def spErr (C : Addr) (nr : List Str) : Sp := fun vs H Q _ => ∃ a ws, vs = .ref a :: ws ∧ ws.length = nr.length ∧ (∀ x ∈ ws, okV x) ∧ H a = some (exo a C none) ∧
 ∀ d H2, H d = none → d ≠ a → H2 a = some (exo a C (some d)) → H2 d = some (exd d (nr.zip ws.reverse)) → (∀ b, b ≠ a → b ≠ d → H2 b = H b) → Q .non H2
section
variable {K : PySem.W.Frag} {E : XK} {α : List Addr} {H : Hp}
theorem okD_ok : ∀ {ds : List D} {xs : List V}, RepL K α H ds xs → ds.all okD = true → ∀ x ∈ xs, okV x
 | _, _, .nil, _, x, h => by cases h
 | d :: ds, _, .cons (v := v) r t, c, x, h => by
  rw [List.all_cons, Bool.and_eq_true] at c
  rcases List.mem_cons.mp h with e | e
  · subst e
    cases d with
    | int i => cases r; exact of_decide_eq_true (p := 0 ≤ i ∧ i.natAbs < 18446744073709551616) c.1
    | str z => cases r; exact of_decide_eq_true (p := z.length ≤ 1000 ∧ ∀ c ∈ z.cps.toList, c < 1114112) c.1
    | _ => exact absurd c.1 Bool.false_ne_true
  · exact okD_ok t c.2 x e
end
end Pd
namespace Pd
open PySem L2 PyProof.Rows
end Pd
namespace Pd
open PySem L2 PyProof.Rows
end Pd
namespace Pd
open PySem L2
end Pd
namespace Pd
open PySem L2
end Pd
namespace Pd
open PySem L2
end Pd
namespace Pd
open PySem L2
end Pd
namespace Pu
open PySem L2 Pd
inductive U where
 | non | bl (b : Bool) | int (i : Int) | str (s : Str) | tup (xs : List U) | lst (xs : List U) | st | rol (ns : List Int) | ty (s : String) | rod (ks : List Key) (xs : List U) | rot (ks : List (List Key)) (xs : List U) | xcp (ns : List Str) (xs : List U)
mutual
def U.d : U → D
 | .non => .non
 | .bl b => .bl b
 | .int i => .int i
 | .str s => .str s
 | .tup xs => .tup (U.dl xs)
 | .lst xs => .lst (U.dl xs)
 | .st => .adr 0
 | .rol ns => .rol (ns.map .int)
 | .ty s => .raw (.ty s)
 | .rod ks xs => .rod ks (U.dl xs)
 | .rot ks xs => .rot ks (U.dl xs)
 | .xcp ns xs => .xcp 0 0 ns (U.dl xs)
def U.dl : List U → List D
 | [] => []
 | x :: xs => x.d :: U.dl xs
end
theorem dl_map : ∀ xs : List U, U.dl xs = xs.map U.d
 | [] => rfl
 | x :: xs => by rw [U.dl, dl_map xs]; rfl
abbrev XQ := Value → Option (List (Str × D)) → Prop
def W (A : Type) := (A → Prop) → XQ → Prop
def ret {A : Type} (a : A) : W A := fun Q _ => Q a
def bind {A B : Type} (m : W A) (k : A → W B) : W B := fun Q N => m (fun a => k a Q N) N
def fail {A : Type} : W A := fun _ _ => False
def raise {A : Type} (c : Value) (fs : Option (List (Str × D))) : W A := fun _ N => N c fs
def guard {A : Type} (p : Prop) (m : W A) : W A := fun Q N => p ∧ m Q N
def pick (n : Int) : W U := fun Q _ => (0 < n ∧ n < 1073741824) ∧ ∀ r : Int, 0 ≤ r → r < n → Q (.int r)
section
variable {A B C : Type}
@[simp] theorem bind_ret (a : A) (k : A → W B) : bind (ret a) k = k a := rfl
@[simp] theorem bind_fail (k : A → W B) : bind (fail : W A) k = fail := rfl
@[simp] theorem bind_raise (c : Value) (fs : Option (List (Str × D))) (k : A → W B) : bind (raise c fs : W A) k = raise c fs := rfl
@[simp] theorem bind_guard (p : Prop) (m : W A) (k : A → W B) : bind (guard p m) k = guard p (bind m k) := rfl
@[simp] theorem bind_ite (p : Prop) [Decidable p] (m m' : W A) (k : A → W B) : bind (if p then m else m') k = if p then bind m k else bind m' k := by
 by_cases h : p <;> simp [h]
theorem guard_true {p : Prop} (h : p) (m : W A) : guard p m = m := by
 funext Q N
 exact propext ⟨fun q => q.2, fun q => ⟨h, q⟩⟩
@[simp] theorem guard_tt (m : W A) : guard True m = m := guard_true trivial m
end
inductive X where
 | u (u : U) | ext (u : U) | own (xs : List U) | dct (kvs : List (Key × U)) | edct (kvs : List (Key × U)) | dcu (P : Program) (w : World) (kvs : List (List Key × U)) | edcu (P : Program) (w : World) (kvs : List (List Key × U))
abbrev Env := List (Option X)
def X.isOwn : X → Bool
 | .own _ => true
 | .dct _ => true
 | .dcu _ _ _ => true
 | _ => false
structure Hd (M : PM) : Prop where
 st : ∃ m J, M = m :: J ∧ Rst m
 cl : M.all (clMO 1) = true
def same1 (M M' : PM) : Prop := ∀ k, 1 ≤ k → M'[k]? = M[k]?
structure Eqv (M M' : PM) : Prop where
 hd : Hd M'
 len : M'.length = M.length
 eq : same1 M M'
structure Grow (n : Nat) (M M' : PM) : Prop where
 hd : Hd M'
 len : M.length ≤ M'.length
 eq : ∀ k, 1 ≤ k → k < n → M'[k]? = M[k]?
theorem Eqv.refl {M : PM} (h : Hd M) : Eqv M M := ⟨h, rfl, fun _ _ => rfl⟩
theorem Eqv.trans {M M' M'' : PM} (a : Eqv M M') (b : Eqv M' M'') : Eqv M M'' := ⟨b.hd, b.len.trans a.len, fun k h => (b.eq k h).trans (a.eq k h)⟩
theorem Grow.trans {n : Nat} {M M' M'' : PM} (a : Grow n M M') (b : Grow n M' M'') : Grow n M M'' := ⟨b.hd, Nat.le_trans a.len b.len, fun k h h' => (b.eq k h h').trans (a.eq k h h')⟩
theorem Hd.pos {M : PM} (h : Hd M) : 0 < M.length := by
 obtain ⟨m, J, rfl, _⟩ := h.st
 simp
theorem Hd.set {M : PM} (h : Hd M) {k : Nat} (hk : 1 ≤ k) {mo : MO} (hm : clMO 1 mo = true) : Hd (M.set k mo) := by
 obtain ⟨m, J, rfl, hs⟩ := h.st
 obtain ⟨k, rfl⟩ : ∃ j, k = j + 1 := ⟨k - 1, by omega⟩
 refine ⟨⟨m, J.set k mo, rfl, hs⟩, ?_⟩
 have h2 := h.cl
 rw [List.all_eq_true] at h2 ⊢
 intro x hx
 rcases List.mem_or_eq_of_mem_set hx with q | q
 · exact h2 x q
 · rw [q]; exact hm
theorem Hd.snoc {M : PM} (h : Hd M) {mo : MO} (hm : clMO 1 mo = true) : Hd (M ++ [mo]) := by
 obtain ⟨m, J, rfl, hs⟩ := h.st
 refine ⟨⟨m, J ++ [mo], rfl, hs⟩, ?_⟩
 rw [List.all_append, h.cl]
 simp [hm]
def kd (kvs : List (Key × U)) : List (Key × D) := kvs.map fun p => (p.1, p.2.d)
def kdT (kvs : List (List Key × U)) : List (List Key × D) := kvs.map fun p => (p.1, p.2.d)
def RL (M : PM) (d : D) (u : U) : Prop := d = u.d ∨ ∃ k xs, 1 ≤ k ∧ d = .adr k ∧ M[k]? = some (.lst (U.dl xs)) ∧ u = .lst xs
def RK (M : PM) (d : D) (kvs : List (Key × U)) : Prop := ∃ k, 1 ≤ k ∧ d = .adr k ∧ M[k]? = some (.dct (kd kvs))
def RKT (P : Program) (w : World) (M : PM) (d : D) (kvs : List (List Key × U)) : Prop := ∃ k, 1 ≤ k ∧ d = .adr k ∧ M[k]? = some (.dcu P w (kdT kvs))
def below (n : Nat) : D → Prop
 | .adr k => k < n
 | _ => True
def above (n : Nat) : D → Prop
 | .adr k => n ≤ k
 | _ => True
def RV (n : Nat) (M : PM) (d : D) : X → Prop
 | .u u => d = u.d
 | .ext u => RL M d u ∧ below n d
 | .own xs => (∃ k, n ≤ k ∧ d = .adr k ∧ M[k]? = some (.lst (U.dl xs)))
 | .dct kvs => RK M d kvs ∧ above n d
 | .edct kvs => RK M d kvs ∧ below n d
 | .dcu P w kvs => RKT P w M d kvs ∧ above n d
 | .edcu P w kvs => RKT P w M d kvs ∧ below n d
structure Sim (n : Nat) (ρ : Rho) (M : PM) (θ : Env) : Prop where
 hd : Hd M
 n1 : 1 ≤ n
 nM : n ≤ M.length
 len : ρ.length = θ.length
 v : ∀ (i : Nat) (x : X), θ[i]? = some (some x) → ∃ d, ρ[i]? = some (some d) ∧ RV n M d x
 sep : ∀ (i j k : Nat) (x y : X), i ≠ j → x.isOwn = true → y.isOwn = true → θ[i]? = some (some x) → θ[j]? = some (some y) → ρ[i]? = some (some (.adr k)) → ρ[j]? = some (some (.adr k)) → False
theorem same_of_lt {M M' : PM} (h : ∀ k, 1 ≤ k → k < M.length → M'[k]? = M[k]?) {k : Nat} (h1 : 1 ≤ k) {mo : MO} (e : M[k]? = some mo) : M'[k]? = some mo := by
 rw [h k h1 (List.getElem?_eq_some_iff.mp e).1]; exact e
theorem RL.keep {M M' : PM} (s : ∀ k, 1 ≤ k → k < M.length → M'[k]? = M[k]?) {d : D} {u : U} (h : RL M d u) : RL M' d u := by
 rcases h with h | ⟨k, xs, h1, h2, h3, h4⟩
 · exact .inl h
 · exact .inr ⟨k, xs, h1, h2, same_of_lt s h1 h3, h4⟩
theorem RK.keep {M M' : PM} (s : ∀ k, 1 ≤ k → k < M.length → M'[k]? = M[k]?) {d : D} {u : List (Key × U)} (h : RK M d u) : RK M' d u := by
 obtain ⟨k, h1, h2, h3⟩ := h
 exact ⟨k, h1, h2, same_of_lt s h1 h3⟩
theorem RKT.keep {P : Program} {w : World} {M M' : PM} (s : ∀ k, 1 ≤ k → k < M.length → M'[k]? = M[k]?) {d : D} {u : List (List Key × U)} (h : RKT P w M d u) : RKT P w M' d u := by
 obtain ⟨k, h1, h2, h3⟩ := h
 exact ⟨k, h1, h2, same_of_lt s h1 h3⟩
theorem RV.keep {M M' : PM} {n : Nat} (n1 : 1 ≤ n) (s : ∀ k, 1 ≤ k → k < M.length → M'[k]? = M[k]?) {d : D} {x : X} (h : RV n M d x) : RV n M' d x := by
 cases x with
 | u u => exact h
 | ext u => exact ⟨h.1.keep s, h.2⟩
 | own xs =>
  obtain ⟨k, h1, h2, h3⟩ := h
  exact ⟨k, h1, h2, same_of_lt s (by omega) h3⟩
 | dct kvs => exact ⟨h.1.keep s, h.2⟩
 | edct kvs => exact ⟨h.1.keep s, h.2⟩
 | dcu P w kvs => exact ⟨h.1.keep s, h.2⟩
 | edcu P w kvs => exact ⟨h.1.keep s, h.2⟩
theorem same1.lt {M M' : PM} (s : same1 M M') : ∀ k, 1 ≤ k → k < M.length → M'[k]? = M[k]? := fun k h _ => s k h
section
variable {n : Nat} {ρ : Rho} {M M' : PM} {θ : Env}
theorem Sim.keep (h : Sim n ρ M θ) (hd : Hd M') (hl : M.length ≤ M'.length) (s : ∀ k, 1 ≤ k → k < M.length → M'[k]? = M[k]?) : Sim n ρ M' θ := ⟨hd, h.n1, Nat.le_trans h.nM hl, h.len, fun i u q => by
 obtain ⟨d, h1, h2⟩ := h.v i u q
 exact ⟨d, h1, h2.keep h.n1 s⟩, h.sep⟩
theorem Sim.eqv (h : Sim n ρ M θ) (e : Eqv M M') : Sim n ρ M' θ := h.keep e.hd (Nat.le_of_eq e.len.symm) e.eq.lt
theorem Sim.snoc (h : Sim n ρ M θ) {mo : MO} (hm : clMO 1 mo = true) : Sim n ρ (M ++ [mo]) θ := h.keep (h.hd.snoc hm) (by simp) fun k _ hk => by rw [List.getElem?_append_left hk]
def kill (θ : Env) : List Nat → Env
 | [] => θ
 | i :: is => (kill θ is).set i none
theorem kill_get {i j : Nat} {x : X} (q : (θ.set i none)[j]? = some (some x)) : θ[j]? = some (some x) := by
 by_cases e : i = j
 · subst e
   by_cases hl : i < θ.length
   · rw [List.getElem?_set_self hl] at q; cases q
   · rw [List.set_eq_of_length_le (by omega)] at q; exact q
 · rw [List.getElem?_set_ne e] at q; exact q
theorem Sim.kill1 (h : Sim n ρ M θ) (i : Nat) : Sim n ρ M (θ.set i none) :=
 ⟨h.hd, h.n1, h.nM, by rw [List.length_set]; exact h.len, fun j u q => h.v j u (kill_get q), fun a b k x y h1 h2 h3 h4 h5 => h.sep a b k x y h1 h2 h3 (kill_get h4) (kill_get h5)⟩
theorem Sim.wipe1 (h : Sim n ρ M θ) (i : Nat) : Sim n (ρ.set i none) M (θ.set i none) := by
 have k := h.kill1 i
 have ne : ∀ (j : Nat) (x : X), (θ.set i none)[j]? = some (some x) → i ≠ j := fun j x q e => by
  subst e
  have hl : i < θ.length := by simpa using (List.getElem?_eq_some_iff.mp q).1
  rw [List.getElem?_set_self hl] at q; cases q
 refine ⟨k.hd, k.n1, k.nM, by rw [List.length_set]; exact k.len, fun j x q => ?_, fun a b c x y h1 h2 h3 h4 h5 h6 h7 => ?_⟩
 · obtain ⟨d, e1, e2⟩ := k.v j x q
   exact ⟨d, by rw [List.getElem?_set_ne (ne j x q)]; exact e1, e2⟩
 · rw [List.getElem?_set_ne (ne a x h4)] at h6
   rw [List.getElem?_set_ne (ne b y h5)] at h7
   exact k.sep a b c x y h1 h2 h3 h4 h5 h6 h7
theorem Sim.wipe (h : Sim n ρ M θ) : ∀ vs : List Nat, Sim n (wipeR ρ vs) M (Pu.kill θ vs)
 | [] => h
 | i :: is => (Sim.wipe h is).wipe1 i
theorem Sim.set (h : Sim n ρ M θ) (i : Nat) {u : U} : Sim n (ρ.set i (some u.d)) M (θ.set i (some (.u u))) := by
 refine ⟨h.hd, h.n1, h.nM, by rw [List.length_set, List.length_set]; exact h.len, fun j w q => ?_, ?_⟩
 · by_cases e : i = j
   · subst e
     have hl : i < θ.length := by simpa using (List.getElem?_eq_some_iff.mp q).1
     rw [List.getElem?_set_self hl] at q
     cases q
     exact ⟨u.d, by rw [List.getElem?_set_self (by rw [h.len]; exact hl)], rfl⟩
   · rw [List.getElem?_set_ne e] at q
     obtain ⟨d, h1, h2⟩ := h.v j w q
     exact ⟨d, by rw [List.getElem?_set_ne e]; exact h1, h2⟩
 · have ne : ∀ (j : Nat) (x : X), x.isOwn = true → (θ.set i (some (.u u)))[j]? = some (some x) → i ≠ j := fun j x ho q e => by
    subst e
    have hl : i < θ.length := by simpa using (List.getElem?_eq_some_iff.mp q).1
    rw [List.getElem?_set_self hl] at q
    cases q
    cases ho
   intro a b k x y h1 h2 h3 h4 h5 h6 h7
   have ea := ne a x h2 h4
   have eb := ne b y h3 h5
   rw [List.getElem?_set_ne ea] at h4 h6
   rw [List.getElem?_set_ne eb] at h5 h7
   exact h.sep a b k x y h1 h2 h3 h4 h5 h6 h7
theorem Sim.new (h : Sim n ρ M θ) (i : Nat) {y : X} {mo : MO} (hm : clMO 1 mo = true) (hr : RV n (M ++ [mo]) (.adr M.length) y) : Sim n (ρ.set i (some (.adr M.length))) (M ++ [mo]) (θ.set i (some y)) := by
 have s := h.snoc hm
 refine ⟨s.hd, s.n1, s.nM, by rw [List.length_set, List.length_set]; exact h.len, fun j w q => ?_, ?_⟩
 · by_cases e : i = j
   · subst e
     have hl : i < θ.length := by simpa using (List.getElem?_eq_some_iff.mp q).1
     rw [List.getElem?_set_self hl] at q
     cases q
     exact ⟨_, by rw [List.getElem?_set_self (by rw [h.len]; exact hl)], hr⟩
   · rw [List.getElem?_set_ne e] at q
     obtain ⟨d, h1, h2⟩ := s.v j w q
     exact ⟨d, by rw [List.getElem?_set_ne e]; exact h1, h2⟩
 · have old : ∀ (j : Nat) (w : X), w.isOwn = true → θ[j]? = some (some w) → ρ[j]? = some (some (.adr M.length)) → False := fun j w ho h1 h2 => by
    obtain ⟨d, h3, h4⟩ := h.v j w h1
    rw [h2] at h3
    cases h3
    have lt : ∀ {k : Nat} {x : MO}, M[k]? = some x → k < M.length := fun e => (List.getElem?_eq_some_iff.mp e).1
    cases w with
    | u _ => cases ho
    | ext _ => cases ho
    | own xs =>
     obtain ⟨k, a1, a2, a3⟩ := h4
     cases a2; exact absurd (lt a3) (Nat.lt_irrefl _)
    | dct kvs =>
     obtain ⟨⟨k, a1, a2, a3⟩, _⟩ := h4
     cases a2; exact absurd (lt a3) (Nat.lt_irrefl _)
    | edct _ => cases ho
    | dcu _ _ kvs =>
     obtain ⟨⟨k, a1, a2, a3⟩, _⟩ := h4
     cases a2; exact absurd (lt a3) (Nat.lt_irrefl _)
    | edcu _ _ _ => cases ho
   have here : ∀ (j k : Nat), (ρ.set i (some (.adr M.length)))[j]? = some (some (.adr k)) → j = i → k = M.length := fun j k q e => by
    subst e
    have hl : j < ρ.length := by simpa using (List.getElem?_eq_some_iff.mp q).1
    rw [List.getElem?_set_self hl] at q
    cases q
    rfl
   intro a b k v w h1 h2 h3 h4 h5 h6 h7
   by_cases ea : a = i
   · have := here a k h6 ea
     subst this
     rw [List.getElem?_set_ne (show i ≠ b by omega)] at h5 h7
     exact old b w h3 h5 h7
   · by_cases eb : b = i
     · have := here b k h7 eb
       subst this
       rw [List.getElem?_set_ne (show i ≠ a by omega)] at h4 h6
       exact old a v h2 h4 h6
     · rw [List.getElem?_set_ne (Ne.symm ea)] at h4 h6
       rw [List.getElem?_set_ne (Ne.symm eb)] at h5 h7
       exact h.sep a b k v w h1 h2 h3 h4 h5 h6 h7
theorem Sim.put (h : Sim n ρ M θ) {i k : Nat} {x y : X} {mo : MO} (ho : x.isOwn = true) (hu : θ[i]? = some (some x)) (hk : ρ[i]? = some (some (.adr k))) (hn : n ≤ k) (hm : clMO 1 mo = true) (hy : y.isOwn = true) (hr : RV n (M.set k mo) (.adr k) y) : Sim n ρ (M.set k mo) (θ.set i (some y)) := by
 have il : i < θ.length := (List.getElem?_eq_some_iff.mp hu).1
 have n1 := h.n1
 refine ⟨h.hd.set (by omega) hm, h.n1, by rw [List.length_set]; exact h.nM, by rw [List.length_set]; exact h.len, fun j z q => ?_, ?_⟩
 · by_cases e : i = j
   · subst e
     rw [List.getElem?_set_self il] at q
     cases q
     exact ⟨_, hk, hr⟩
   · rw [List.getElem?_set_ne e] at q
     obtain ⟨d, h2, h3⟩ := h.v j z q
     refine ⟨d, h2, ?_⟩
     have nek : ∀ k', d = .adr k' → below n d ∨ z.isOwn = true → k ≠ k' := fun k' g2 g3 e' => by
      subst e'
      rcases g3 with g3 | g3
      · rw [g2] at g3; have : k < n := g3; omega
      · rw [g2] at h2
        exact h.sep i j k x z e ho g3 hu q hk h2
     have rk : ∀ {kvs : List (Key × U)}, RK M d kvs → (below n d ∨ z.isOwn = true) → RK (M.set k mo) d kvs := fun g b => by
      obtain ⟨k', g1, g2, g3⟩ := g
      exact ⟨k', g1, g2, by rw [List.getElem?_set_ne (nek k' g2 b)]; exact g3⟩
     have rkt : ∀ {P : Program} {w : World} {kvs : List (List Key × U)}, RKT P w M d kvs → (below n d ∨ z.isOwn = true) → RKT P w (M.set k mo) d kvs := fun g b => by
      obtain ⟨k', g1, g2, g3⟩ := g
      exact ⟨k', g1, g2, by rw [List.getElem?_set_ne (nek k' g2 b)]; exact g3⟩
     cases z with
     | u _ => exact h3
     | ext u =>
      obtain ⟨g, b⟩ := h3
      refine ⟨?_, b⟩
      rcases g with g | ⟨k', xs, g1, g2, g3, g4⟩
      · exact .inl g
      · exact .inr ⟨k', xs, g1, g2, by rw [List.getElem?_set_ne (nek k' g2 (.inl b))]; exact g3, g4⟩
     | own xs =>
      obtain ⟨k', g1, g2, g3⟩ := h3
      exact ⟨k', g1, g2, by rw [List.getElem?_set_ne (nek k' g2 (.inr rfl))]; exact g3⟩
     | dct _ => exact ⟨rk h3.1 (.inr rfl), h3.2⟩
     | edct _ => exact ⟨rk h3.1 (.inl h3.2), h3.2⟩
     | dcu _ _ _ => exact ⟨rkt h3.1 (.inr rfl), h3.2⟩
     | edcu _ _ _ => exact ⟨rkt h3.1 (.inl h3.2), h3.2⟩
 · intro a b k' v z g1 g2 g3 g4 g5
   have get : ∀ (j : Nat) (w : X), w.isOwn = true → (θ.set i (some y))[j]? = some (some w) → ∃ w' : X, w'.isOwn = true ∧ θ[j]? = some (some w') := fun j w hw q => by
    by_cases e : i = j
    · subst e; exact ⟨_, ho, hu⟩
    · rw [List.getElem?_set_ne e] at q; exact ⟨_, hw, q⟩
   obtain ⟨v', gv, g4⟩ := get a v g2 g4
   obtain ⟨z', gz, g5⟩ := get b z g3 g5
   exact h.sep a b k' v' z' g1 gv gz g4 g5
end
end Pu
namespace Pu
open PySem L2 Pd
def Wp {A : Type} (o : Out A) (Q : A → PM → Prop) (N : Value → Option (List (Str × D)) → PM → Prop) : Prop := match o with
 | .ok a M => Q a M
 | .exn c fs M => N c fs M
 | .bad => False
theorem Wp.mono {A : Type} {o : Out A} {Q Q' : A → PM → Prop} {N N' : Value → Option (List (Str × D)) → PM → Prop} (h : Wp o Q N) (k : ∀ a M, Q a M → Q' a M) (k' : ∀ c fs M, N c fs M → N' c fs M) : Wp o Q' N' := by
 cases o with
 | ok a M => exact k a M h
 | exn c fs M => exact k' c fs M h
 | bad => exact h
def Px {A B : Type} (M : PM) (R : PM → A → B → Prop) (Q : B → Prop) : A → PM → Prop := fun a M' => Eqv M M' ∧ ∃ b, R M' a b ∧ Q b
def clX (fs : Option (List (Str × D))) : Prop := clF 1 fs = true
def Nx (M : PM) (N : XQ) : Value → Option (List (Str × D)) → PM → Prop := fun c fs M' => Grow M.length M M' ∧ clX fs ∧ N c fs
section
variable {A B A' B' : Type} {R : PM → A → B → Prop} {R' : PM → A' → B' → Prop} {Q : B → Prop} {Q' : B' → Prop} {N : XQ} {M M1 : PM}
theorem Nx.tr {c : Value} {fs : Option (List (Str × D))} {M2 : PM} (e : Eqv M M1) (h : Nx M1 N c fs M2) : Nx M N c fs M2 :=
 ⟨⟨h.1.hd, by rw [← e.len]; exact h.1.len, fun k h1 h2 => (h.1.eq k h1 (by rw [e.len]; exact h2)).trans (e.eq k h1)⟩, h.2⟩
theorem Wp.tr {o : Out A} (e : Eqv M M1) (h : Wp o (Px M1 R Q) (Nx M1 N)) : Wp o (Px M R Q) (Nx M N) :=
 h.mono (fun _ _ h => ⟨e.trans h.1, h.2⟩) fun _ _ _ h => Nx.tr e h
theorem Wp.now {a : A} {b : B} (h : Hd M) (r : R M a b) (q : Q b) : Wp (.ok a M) (Px M R Q) (Nx M N) := ⟨Eqv.refl h, b, r, q⟩
end
def SX {A B : Type} (R : PM → A → B → Prop) (n : Nat) (f : Rho → PM → Out A) (w : Env → W B) : Prop :=
 ∀ ρ M θ Q N, Sim n ρ M θ → w θ Q N → Wp (f ρ M) (Px M R Q) (Nx M N)
inductive RLs (M : PM) : List D → List U → Prop
 | nil : RLs M [] []
 | cons {d : D} {u : U} {ds : List D} {us : List U} : RL M d u → RLs M ds us → RLs M (d :: ds) (u :: us)
def RX (M : PM) (d : D) : X → Prop
 | .u u => d = u.d
 | .ext u => RL M d u
 | .edct kvs => RK M d kvs
 | .edcu P w kvs => RKT P w M d kvs
 | _ => False
inductive RXs (M : PM) : List D → List X → Prop
 | nil : RXs M [] []
 | cons {d : D} {u : X} {ds : List D} {us : List X} : RX M d u → RXs M ds us → RXs M (d :: ds) (u :: us)
section
variable {n : Nat} {fa fb fc : FE} {wa wb wc : Env → W U} {t u : FT} {wt wu : Env → W Bool}
theorem SX.sub {A B : Type} {R R' : PM → A → B → Prop} {f : Rho → PM → Out A} {w : Env → W B} (h : SX R n f w) (k : ∀ M a b, R M a b → R' M a b) : SX R' n f w := fun ρ M θ Q N s q =>
 (h ρ M θ Q N s q).mono (fun a M' ⟨e, b, r, q⟩ => ⟨e, b, k _ _ _ r, q⟩) fun _ _ _ h => h
theorem RL.eqv {M M' : PM} (e : Eqv M M') {d : D} {u : U} (h : RL M d u) : RL M' d u := h.keep e.eq.lt
theorem RLs.eqv {M M' : PM} (e : Eqv M M') : ∀ {ds : List D} {us : List U}, RLs M ds us → RLs M' ds us
 | _, _, .nil => .nil
 | _, _, .cons r t => .cons (r.eqv e) (RLs.eqv e t)
theorem RX.eqv {M M' : PM} (e : Eqv M M') {d : D} {x : X} (h : RX M d x) : RX M' d x := by
 cases x with
 | u u => exact h
 | ext u => exact RL.eqv e h
 | edct kvs => exact RK.keep e.eq.lt h
 | edcu P w kvs => exact RKT.keep e.eq.lt h
 | own _ => exact h
 | dct _ => exact h
 | dcu _ _ _ => exact h
theorem rngOk_of {j : Int} (h : -4611686018427387904 ≤ j ∧ j < 4611686018427387904) : rngOk j = true := by unfold rngOk; simp [h.1, h.2]
end
end Pu
namespace Pu
open PySem L2 Pd
def noX {A : Type} (m : W A) : W A := fun Q _ => m Q fun _ _ => False
section
variable {A B : Type}
@[simp] theorem noX_ret (a : A) : noX (ret a) = ret a := rfl
@[simp] theorem noX_fail : noX (fail : W A) = fail := rfl
@[simp] theorem noX_raise (c : Value) (fs : Option (List (Str × D))) : noX (raise c fs : W A) = fail := rfl
@[simp] theorem noX_guard (p : Prop) (m : W A) : noX (guard p m) = guard p (noX m) := rfl
@[simp] theorem noX_pick (n : Int) : noX (pick n) = pick n := rfl
@[simp] theorem noX_ite (p : Prop) [Decidable p] (m m' : W A) : noX (if p then m else m') = if p then noX m else noX m' := by
 by_cases h : p <;> simp [h]
end
section
variable {M : PM}
theorem RXs.len {ds : List D} {xs : List X} (h : RXs M ds xs) : ds.length = xs.length := by
 induction h with
 | nil => rfl
 | cons _ _ ih => rw [List.length_cons, List.length_cons, ih]
theorem RXs.get {ds : List D} {xs : List X} (h : RXs M ds xs) : ∀ (i : Nat) (x : X), xs[i]? = some x → ∃ d, ds[i]? = some d ∧ RX M d x := by
 induction h with
 | nil => intro i x e; simp at e
 | cons r t ih =>
  intro i x e
  cases i with
  | zero => simp at e; subst e; exact ⟨_, rfl, r⟩
  | succ i => simp at e; obtain ⟨d, h1, h2⟩ := ih i x e; exact ⟨d, by simpa using h1, h2⟩
end
end Pu
namespace Pu
open PySem L2 Pd
def wo {A : Type} : Option A → W A
 | some a => ret a
 | none => fail
@[simp] theorem wo_some {A : Type} (a : A) : wo (some a) = ret a := rfl
@[simp] theorem wo_none {A : Type} : wo (none : Option A) = fail := rfl
section
theorem atI_map {A B : Type} (f : A → B) (xs : List A) (i : Int) : atI (xs.map f) i = (atI xs i).map f := by
 unfold atI
 rw [List.length_map]
 cases ixN xs.length i with
 | none => rfl
 | some j => simp
theorem atI_dl (xs : List U) (i : Int) : atI (U.dl xs) i = (atI xs i).map U.d := by rw [dl_map, atI_map]
theorem ix_seq {M : PM} {a : D} {xs : List U} {i : Int} {u : U} (h : seqOf M a = some (U.dl xs)) (e : atI xs i = some u) : gIx M a (.int i) = .ok u.d M := gIx_seq h (by rw [atI_dl, e]; rfl)
end
end Pu
namespace Pu
open PySem L2 Pd
end Pu
namespace Pd
open PySem L2 PyProof.Rows
end Pd
namespace Pd
open PySem L2
end Pd
namespace Pu
open PySem L2 Pd
end Pu
namespace Pu
open PySem L2 Pd
end Pu
namespace Pu
open PySem L2 Pd
end Pu
namespace Pu
open PySem L2 Pd
end Pu
namespace Pu
open PySem L2 Pd
theorem ofString_eq (a b : String) : (PySem.Str.ofString a = PySem.Str.ofString b) = (a = b) := by
 apply propext
 constructor
 · intro h
   rw [PySem.Str.ofString_eq_toList, PySem.Str.ofString_eq_toList] at h
   have h1 : (a.toList.map Char.toNat) = (b.toList.map Char.toNat) := by simpa using h
   have h2 := (List.map_inj_right (fun x y e => Char.toNat_inj.mp e)).mp h1
   exact String.toList_inj.mp h2
 · rintro rfl; rfl
end Pu
namespace Ts
open PySem PySem.Spec PyProof.Rows L2
section
variable {P : Program} {w : World} {A : Around} {E : Value → Shared → Prop} {s : Shared} {a : Addr} {K : Type} [DecidableEq K] {knd : PySem.KeyKind P w K} {k : K} {x : Value} {o : Obj} {es : Array (Int × Value)} {ep : Nat} {t : SetTable}
structure Tab (w : World) (es : Array (Int × Value)) (t : SetTable) : Prop where
 few : es.size < scanBound
 fit : t.fits es.size = true
 ris : Ris t.place.toList
 led : w.params.followText "set-order" = true ∨ t.led = true
end
end Ts
namespace Ts
open PySem PySem.Spec PyProof.Rows L2
def kS (e : Int × Value) : Str := match e.2 with
 | .str x _ => x
 | _ => Str.empty
def isT (w : World) (e : Int × Value) : Prop := ∃ x tk, e = (hashStr w x, Value.str x tk)
def TSet (w : World) (h : Heap) (a : Addr) (xs : List Str) : Prop :=
 ∃ o es ep t, h.get? a = some o ∧ o.ExactSet ∧ o.data = .set es ep t ∧ (∀ e ∈ es.toList, isT w e) ∧ (es.toList.map kS).Nodup ∧ (∀ x, x ∈ es.toList.map kS ↔ x ∈ xs) ∧ es.size ≤ xs.length ∧ Tab w es t
section
variable {P : Program} {w : World} {A : Around} {E : Value → Shared → Prop} {s : Shared} {a : Addr} {h h' : Heap} {xs : List Str}
theorem TSet.keep (T : TSet w h a xs) (k : ∀ o, h.get? a = some o → h'.get? a = some o) : TSet w h' a xs := by
 obtain ⟨o, es, ep, t, ho, r⟩ := T
 exact ⟨o, es, ep, t, k o ho, r⟩
end
end Ts
namespace Ts
open PySem PySem.Spec PyProof.Rows L2
def bare (w : World) : Obj := { cls := .type "set", dict := none, data := .set #[] 0 (.fresh 0 0 (!w.params.followText "set-order")) }
end Ts
namespace Pd
open PySem L2
end Pd
namespace Pu
open PySem L2 Pd
end Pu
namespace Pu
open PySem L2 Pd
end Pu
namespace Pu
open PySem L2 Pd
end Pu
namespace Pu
open PySem L2 Pd
end Pu
namespace Pd
open PySem L2
end Pd
namespace Pu
open PySem L2 Pd
end Pu
namespace Pu
open PySem L2 Pd
end Pu
namespace Lcn
open PySem PySem.Spec L2
end Lcn
namespace Pd
open PySem L2 Lcn
def canI (K : PySem.W.Frag) (E : XK) (f : FA) : TI := fun σ H R => ∃ ρ α M, EnvR K α H ρ σ ∧ Wd K α M H ∧ Post (ItR K) K α H R E (f ρ M)
theorem PDI.can {X : Cx} {E : XK} {tg e : Expr} {f : FA} (h : PDI X E tg e f) : PI X tg e (canI X.K E f) := by
 obtain ⟨t, h, r⟩ := h
 exact ⟨fun pins s σ H Q I ⟨ρ, α, M, e, w, q⟩ => h.run pins s σ H Q I (r ρ σ H α M Q e w q)⟩
end Pd
namespace Pd
open PySem L2 Lcn
end Pd
namespace Pu
open PySem L2 Pd
def Px1 (M : PM) (Q : List U → Prop) : Unit → PM → Prop := fun _ M' => ∃ M2 acc, M' = M2 ++ [.lst (U.dl acc)] ∧ Eqv M M2 ∧ Q acc
section
variable {n m : Nat} {N : XQ} {Q : List U → Prop}
theorem Px1.tr {M M2 : PM} {u : Unit} {M' : PM} (e : Eqv M M2) (h : Px1 M2 Q u M') : Px1 M Q u M' := by
 obtain ⟨M3, acc, h1, h2, h3⟩ := h
 exact ⟨M3, acc, h1, e.trans h2, h3⟩
variable {θ : Env}
end
end Pu
namespace Pd
open PySem L2
end Pd
namespace Pu
open PySem L2 Pd
end Pu
namespace Pd
open PySem L2
mutual
def pyD : D → Option PyData
 | .non => some .none
 | .bl b => some (.bool b)
 | .int i => some (.int i)
 | .str x => some (.str x)
 | .tup ds => (pyDs ds).map .tuple
 | .lst ds => (pyDs ds).map .list
 | .rol ds => (pyDs ds).map .list
 | _ => none
def pyDs : List D → Option (List PyData)
 | [] => some []
 | d :: r => match pyD d, pyDs r with
  | some x, some xs => some (x :: xs)
  | _, _ => none
end
def pyM (M : PM) : D → Option PyData
 | .adr i => match M[i]? with
  | some (.lst ds) => (pyDs ds).map .list
  | _ => none
 | d => pyD d
def gEqQ : PM → D → D → Out D := fun M a b => match pyM M a, pyM M b with
 | some x, some y => if SeqAt.shaped x = true ∧ SeqAt.shaped y = true then .ok (.bl (PyData.eqv x y)) M else .bad
 | _, _ => .bad
def gNeQ : PM → D → D → Out D := fun M a b => match pyM M a, pyM M b with
 | some x, some y => if SeqAt.shaped x = true ∧ SeqAt.shaped y = true then .ok (.bl (!PyData.eqv x y)) M else .bad
 | _, _ => .bad
section
variable {K : PySem.W.Frag} {E : XK} {X : Cx}
mutual
theorem pyD_dp {α : List Addr} {H : Hp} : ∀ (d : D) (v : V) (x : PyData), Rep K α H d v → pyD d = some x → Dp K H v x
 | .non, _, _, .non, e => by cases e; exact .non
 | .bl b, _, _, .bl _, e => by cases e; exact .bl b
 | .int i, _, _, .int _, e => by cases e; exact .int i
 | .str z, _, _, .str _, e => by cases e; exact .str z
 | .tup ds, _, x, .tup t rs, e => by
  rw [pyD] at e
  obtain ⟨xs, h, rfl⟩ := Option.map_eq_some_iff.mp e
  exact .tup t.sq (pyDs_dp ds _ xs rs h)
 | .lst ds, _, x, .lst t rs, e => by
  rw [pyD] at e
  obtain ⟨xs, h, rfl⟩ := Option.map_eq_some_iff.mp e
  exact .lst t.sq (pyDs_dp ds _ xs rs h)
 | .rol ds, _, x, .rol t rs, e => by
  rw [pyD] at e
  obtain ⟨xs, h, rfl⟩ := Option.map_eq_some_iff.mp e
  exact .lst t.sq (pyDs_dp ds _ xs rs h)
 | .adr _, _, _, _, e => by cases e
 | .raw _, _, _, _, e => by cases e
 | .xcp _ _ _ _, _, _, _, e => by cases e
 | .rod _ _, _, _, _, e => by cases e
 | .rot _ _, _, _, _, e => by cases e
theorem pyDs_dp {α : List Addr} {H : Hp} : ∀ (ds : List D) (vs : List V) (xs : List PyData), RepL K α H ds vs → pyDs ds = some xs → DpAll K H vs xs
 | [], _, _, .nil, e => by cases e; exact .nil
 | d :: r, _, xs, .cons r1 rs, e => by
  rw [pyDs] at e
  split at e
  · rename_i x ys h1 h2
    cases e
    exact .cons (pyD_dp d _ x r1 h1) (pyDs_dp r _ ys rs h2)
  · cases e
end
theorem pyM_dp {α : List Addr} {H : Hp} {M : PM} {d : D} {v : V} {x : PyData} (w : Wd K α M H) (r : Rep K α H d v) (e : pyM M d = some x) : Dp K H v x := by
 cases d with
 | adr i =>
  have e' : (match M[i]? with | some (.lst ds) => (pyDs ds).map PyData.list | _ => none) = some x := e
  split at e'
  · rename_i ds hm
    obtain ⟨xs, h, rfl⟩ := Option.map_eq_some_iff.mp e'
    cases r with
    | adr ha =>
     obtain ⟨a', ea, vs, ev, rv⟩ := w.ob _ _ hm
     rw [ha] at ea
     cases ea
     exact .lst (.of ev) (pyDs_dp ds _ xs rv h)
  · cases e'
 | _ => exact pyD_dp _ _ _ r e
theorem od_eqQ : OpD K E (rEqD K) gEqQ := fun α H M a b x y Q w ra rb q => by
 unfold gEqQ at q
 split at q
 · rename_i p r h1 h2
   obtain ⟨⟨d1, d2⟩, q⟩ := ifb q
   exact ⟨p, r, pyM_dp w ra h1, pyM_dp w rb h2, d1, d2, q.now w (.bl _)⟩
 · exact q.elim
theorem od_neQ : OpD K E (rNeD K) gNeQ := fun α H M a b x y Q w ra rb q => by
 unfold gNeQ at q
 split at q
 · rename_i p r h1 h2
   obtain ⟨⟨d1, d2⟩, q⟩ := ifb q
   exact ⟨p, r, pyM_dp w ra h1, pyM_dp w rb h2, d1, d2, q.now w (.bl _)⟩
 · exact q.elim
theorem o_eqQ (hu : X.A.units + 64 < cLine) : Op2 X E (compareOp .Eq) gEqQ := ⟨_, op_eqD hu, od_eqQ⟩
theorem o_neQ (hu : X.A.units + 64 < cLine) : Op2 X E (compareOp .NotEq) gNeQ := ⟨_, op_neD hu, od_neQ⟩
end
end Pd
namespace Pu
open PySem L2 Pd
end Pu
namespace Pd
open PySem L2
end Pd
namespace Pu
open PySem L2 Pd
end Pu
namespace Pu
open PySem L2 Pd
end Pu
namespace Pd
open PySem L2
end Pd
namespace Pu
open PySem L2 Pd
def kept (i : Nat) (ρ : Rho) : Fl → Prop
 | .nx ρ' => ρ'[i]? = ρ[i]?
 | .ct ρ' => ρ'[i]? = ρ[i]?
 | .bk ρ' => ρ'[i]? = ρ[i]?
 | _ => True
end Pu
namespace Pd
open PySem L2
end Pd
namespace Pu
open PySem L2 Pd
end Pu
namespace Pd
open PySem L2
end Pd
namespace Pu
open PySem L2 Pd
end Pu
namespace Hh
open PySem PySem.Spec PyProof.Rows L2 Pd
section
variable {K : PySem.W.Frag} {h : Heap} {mg : Str → Option Value} {x : Str}
theorem funM {st : Stmt} {ps : List Str} (X : K.In h) (G : h.Ns mainGlobals mg) (g : (He.Fa.glo x).ok K = true)
 (F : ∃ fd, FunD K x x (defArgs st) (defBody st) (defScope st) [] [] (He.ga K x) fd)
 (hb : ∀ (kV doc pm : Value) (an : Option Addr) (cdv ct : Value) (us : List Value), us.length = ps.length → bindArgs (PySem.W.fnOf x x (defArgs st) (defBody st) (defScope st) .none kV doc pm an cdv ct) ⟨us, []⟩ = pure (ps.zip us)) : FunM K mg x st ps := by
 obtain ⟨fd, F⟩ := F
 obtain ⟨oc, od, dV, kV, doc, pm, an, cdv, ct, osl, rfl, lk, hcd, hd, _⟩ := F.ex
 rcases hd with ⟨_, rfl⟩ | ⟨hne, _⟩
 · exact ⟨_, _, ⟨⟨oc, od, kV, doc, pm, an, cdv, ct, osl, rfl, lk, hcd⟩, F.kp⟩, He.glo_ok X G g, hb kV doc pm an cdv ct⟩
 · exact absurd rfl hne
theorem blt (X : K.In h) (G : h.Ns mainGlobals mg) {b : String} (c : bltB K x b = true) : mg x = some (.builtin b) := PySem.W.mg_of X G (He.eqO_ok c)
theorem ex_at {E : List (PySem.W.Frag → Bool)} (c : (E.all fun f => f K) = true) (i : Nat) {f : PySem.W.Frag → Bool} (e : E[i]? = some f := by rfl) : f K = true := List.all_eq_true.mp c f (List.mem_of_getElem? e)
end
end Hh
namespace Pd
open PySem L2
theorem mw_call {prog : Program} {w : World} {A : Around} {E : Value → Shared → Prop} {h : Heap} {g : Array GenState} {d : Drawn} {t : Nat} {os : OsState} {nm q : Str} {C N : Addr} {bs bm : List Value} {hdct : Bool} {sn : List Str} {sub : List Value} {ab : Bool} {col : Option Bool} {dd : Option Addr}
 {k0 k1 k2 k3 k5 : Option Value} {u e t0 : Addr} {rest : List Value} {Q : Value → Shared → Prop}
 (hC : h.get? C = some (excClassObj nm q C N bs bm hdct sn sub ab col dd k0 k1 k2 k3 k5 "ValueError.__new__")) (he : h.get? e = some (PySem.HandSPX.excO C t0)) (hu : h.get? u = some (PySem.W.kxs_mw "ValueError.__init__" e)) (hl : rest.length ≤ sizeLine)
 (k : ∀ h' : Heap, (∀ b o, b ≠ e → h.get? b = some o → h'.get? b = some o) → h'.get? e = some (PySem.HandSPX.excO C h.objs.size) → Q .none ⟨h', g, d, t, os⟩) :
 wpAny (model prog w) A (call (.ref u) rest) Q E ⟨h, g, d, t, os⟩ := by
 refine wpAny_runValue (codeAny_of_tree ?_)
 show wpAny (model prog w) _ (callAny (.ref u) { pos := rest }) _ _ _
 rw [callAny.eq_3]
 refine wpAny_bind (wpAny_load hu ?_)
 refine wpAny_bind (PySem.W.check_bound_init PySem.F.excCall_ValueError hC he rfl ?_)
 refine wpAny_pure ⟨PySem.Code.quiet_builtin _ (by decide +kernel), codeAny_builtin PySem.F.excCall_ValueError.initEntry ?_⟩
 exact PySem.W.exc_init_tree he hl fun h' keep hx ht => k h' keep hx
end Pd
namespace Pd
open PySem L2
structure SupF (prog : Program) (K : PySem.W.Frag) (C D : Addr) (f cda cc : Addr) (fd : FuncData) (slf : Str) : Prop where
 ex : OexC K C
 fn : ∃ oc od osl, K.lookup f = some ⟨oc, od, .func fd, osl⟩
 par : ∃ ar : Arg, (fd.params.posonlyargs ++ fd.params.args).head? = some ar ∧ ar.arg = slf
 code : ∃ ccl cdd vs ccs file tf, K.lookup cda = some ⟨ccl, cdd, .fields vs, ccs⟩ ∧ vs[2]? = some (.str file tf) ∧ (prog.main.file == file) = true
 cell : ∃ cl cld csl, K.lookup cc = some ⟨cl, cld, .cell (some (.ref D)), csl⟩
 clsD : ∃ cd, PySem.W.clsIn K D = some cd
 clsC : ∃ cd, PySem.W.clsIn K C = some cd ∧ PySem.W.alongIn K "__init__" ((cd.mro.dropWhile fun x => x != .ref D).drop 1) = some (some (.builtin "ValueError.__init__"))
 sub : PySem.W.mroIn K C (.ref D) = some true
 subV : PySem.W.subIn K (.ref C) (.type "ValueError") = some true
 any : PySem.W.nsIn K cStatics "thirdparty.any" = some none
 top : ((prog.main.scope.names.lookup ("super" : Str)).isSome) = false
theorem cls_get {K : PySem.W.Frag} {h : Heap} (X : K.In h) {C : Addr} {cd : ClassData} (e : PySem.W.clsIn K C = some cd) : ∃ o, h.get? C = some o ∧ o.data = .cls cd := by
 unfold PySem.W.clsIn at e
 split at e
 · rename_i cls dict cd' sl hl
   cases e
   exact ⟨_, X _ _ hl, rfl⟩
 · cases e
theorem inv_K {X : Cx} {pins : List (Addr × Obj)} {σ : L2.St} {H : Hp} {s : Shared} (I : Inv X pins σ H s) : X.K.In s.heap := fun a o h => (I.bs a o (I.ok.mod.kin a o h)).1
theorem look_inst {M : Model} {K : PySem.W.Frag} {h : Heap} (X : K.In h) {a C : Addr} {o : Obj} {b : Value} {r : Bool} (ho : h.get? a = some o) (hc : o.cls = .ref C) (hs : PySem.W.subIn K (.ref C) b = some r) : PySem.W.Looks M h (isInstance (.ref a) b) r := fun A Q E s hk hq => by
 unfold isInstance
 refine wpAny_bind (wpAny_typeOf_ref (hk _ _ ho) ?_)
 rw [hc]
 exact PySem.W.looks_subIn X hs A Q E s hk hq
theorem look_mro {M : Model} {K : PySem.W.Frag} {h : Heap} (X : K.In h) {C : Addr} {cd : ClassData} (e : PySem.W.clsIn K C = some cd) : PySem.W.Looks M h (mroOf (.ref C)) cd.mro := fun A Q E s hk hq => by
 show wpAny M A (do let __do_lift ← classData C; pure __do_lift.mro) Q E s
 exact wpAny_bind (PySem.W.looks_clsIn X e A _ E s hk (wpAny_pure hq))
theorem frs_lt {h base : Heap} : ∀ (l : List PySem.Env), h.FunFrames base l → ∀ b ∈ frs l, b < h.objs.size
 | [], _, b, z => by cases z
 | e :: l, f, b, z => by
  rw [Heap.FunFrames.eq_2] at f
  obtain ⟨_, ⟨L, o, f1, _, f2, _⟩, f3⟩ := f
  unfold frs at z
  rw [List.filterMap_cons, f1] at z
  rcases List.mem_cons.mp z with e1 | e1
  · rw [e1]
    exact Heap.lt_size f2
  · exact frs_lt l f3 b e1
theorem sup_at {X : Cx} {pins : List (Addr × Obj)} {σ : L2.St} {H : Hp} {s : Shared} {body : List Stmt} {f cda cc C D a : Addr} {fd : FuncData} {self : Str} {p0 p1 apos pos : Pos} {e : Expr} {es : List Expr} {ta : TA} {Q : Value → Shared → Prop} {Q' : Hp → Prop} {pl : Sem Bool}
 (F : SupF X.prog X.K C D f cda cc fd self) (I : Inv X pins σ H s) (hf : X.env.func = some f) (hc : X.env.code = .ref cda) (hcl : X.env.cells.lookup ("__class__" : Str) = some cc)
 (ks : X.env.kindOf "super" = some .globalImplicit) (kc : X.env.kindOf "__class__" = some .free) (kself : X.env.kindOf self = some .local) (hm : X.mg "super" = none)
 (hN : X.N[0]? = some self) (hσ : σ[0]? = some (some (.ref a))) (hH : H a = some (exo a C none)) (ha : PA X (e :: es) ta)
 (t : ta σ H fun vs H1 => vs.length ≤ 1000 ∧ H1 a = some (exo a C none) ∧ Q' H1)
 (q : ∀ s' H1, Inv X pins σ H1 s' → Q' H1 → Q .none s')
 (he : starEach (e :: es) X.env = (false, eval e X.env) :: starEach es X.env) (hpl : (backTo pos (starEach es X.env)).any (·.1) = false)
 (hmc : wpAt (model X.prog X.w) X.A (.func body X.env) (attributeBase (.Call (.Name "super" p0) [] [] p1) "__init__" X.env (eval (.Call (.Name "super" p0) [] [] p1) X.env)) (fun ov s₁ => wpAny (model X.prog X.w) X.A (getMethod ov "__init__" pl) (fun fx s₂ => wpAny (model X.prog X.w) X.A (callWith pos fx.1 fx.2 (backTo pos (starEach (e :: es) X.env)) []) Q X.xe s₂) X.xe s₁) X.xe s →
  wpAt (model X.prog X.w) X.A (.func body X.env) (eval (.Call (.Attribute (.Call (.Name "super" p0) [] [] p1) "__init__" apos) (e :: es) [] pos) X.env) Q X.xe s) :
 wpAt (model X.prog X.w) X.A (.func body X.env) (eval (.Call (.Attribute (.Call (.Name "super" p0) [] [] p1) "__init__" apos) (e :: es) [] pos) X.env) Q X.xe s := by
 obtain ⟨oc, od, osl, hfn⟩ := F.fn
 obtain ⟨ar, hpar, har⟩ := F.par
 obtain ⟨ccl, cdd, vsc, ccs, file, tf, hcode, hfile, hmain⟩ := F.code
 obtain ⟨cl, cld, csl, hcell⟩ := F.cell
 obtain ⟨cdD, hclsD⟩ := F.clsD
 obtain ⟨cdC, hclsC, halong⟩ := F.clsC
 have KI := inv_K I
 obtain ⟨oD, gD, dD⟩ := cls_get KI hclsD
 obtain ⟨t1, gx⟩ := exo_at I.hok hH
 obtain ⟨m, hns, hloc⟩ := I.loc
 obtain ⟨mb, hb1, hb2⟩ := I.ok.mod.blt
 have kf := I.ok.kind
 refine hmc (ks_wpAt_super_base ks kc rfl hf (KI _ _ hfn) rfl hpar hc (KI _ _ hcode) rfl hfile hmain F.top ?_)
 -- super
 refine PySem.W.ks_loadName_global kf ks ?_
 have hg : s.heap.Ns X.env.globals X.mg := by
  obtain ⟨o, es, ep, z1, z2⟩ := I.ok.mod.glob
  rw [I.ok.glob]
  exact ⟨o, es, ep, (I.bs _ _ z1).1, z2⟩
 have hbl : s.heap.Ns X.env.builtins mb := by
  obtain ⟨o, es, ep, z1, z2⟩ := hb1
  rw [I.ok.blt]
  exact ⟨o, es, ep, (I.bs _ _ z1).1, z2⟩
 refine PySem.Calls.loadGlobal_builtin hg hm hbl ((hb2 _ (by decide)).trans rfl) ⟨rfl, ?_⟩
 -- __class__
 refine wpAny_loadName_free kf kc hcl ⟨_, KI _ _ hcell, rfl⟩ ?_
 -- self
 rw [har]
 obtain ⟨u, hu1, hu2⟩ := hloc 0 self (.ref a) hN hσ (Or.inl kself)
 have hu1 : u = .ref a := hu1
 subst hu1
 have hms : m self = some (.ref a) := by
  rcases hu2 with h | ⟨h, _⟩
  · exact h.2
  · rw [kself] at h
    rcases h with h | h <;> cases h
 refine wpAny_loadName_local kf kself hns hms ?_
 obtain ⟨h, g, d, tk, os⟩ := s
 refine ks_wpAny_isType_cls gD dD ⟨rfl, ?_⟩
 refine ks_wpAny_call_super gD dD gx rfl (fun c z => by cases z) (PySem.W.looks_mroIn KI F.sub) fun h1 hso hk1 => ?_
 have I1 : Inv X pins σ H ⟨h1, g, d, tk, os⟩ := I.kept hk1
 have KI1 := inv_K I1
 obtain ⟨nm, qn, N, bs, bm, sn, sub, ab, col, dd, k0, k1, k2, k3, k5, hCl, _⟩ := F.ex.cls
 have hxC : a ≠ C := fun z => by
  have := (I.bs C _ (I.ok.mod.kin _ _ hCl)).2
  rw [← z, hH] at this
  cases this
 refine PySem.W.kxs_getMethod PySem.W.kxs_ValueError hso (PySem.W.looks_opaque KI1 F.any) (look_mro KI1 hclsC) rfl KI1 halong (look_inst KI1 (hk1 _ _ gx) rfl F.subV) hxC rfl ?_
 -- the bound __init__
 have hk2 : ∀ b o, h1.get? b = some o → (h1.push (PySem.W.kxs_mw "ValueError.__init__" a)).get? b = some o := fun b o z => by
  rw [Heap.get?_push_ne _ _ _ (Nat.ne_of_lt (Heap.lt_size z))]
  exact z
 have I2 : Inv X pins σ H ⟨h1.push (PySem.W.kxs_mw "ValueError.__init__" a), g, d, tk + 1, os⟩ := I1.kept hk2
 have hu : (h1.push (PySem.W.kxs_mw "ValueError.__init__" a)).get? h1.objs.size = some (PySem.W.kxs_mw "ValueError.__init__" a) := Heap.get?_push_size _ rfl
 have fp : FpOk X pins H h1.objs.size := by
  refine ⟨I1.fresh, Ne.symm (Nat.ne_of_lt I1.lt), fun z => ?_, .inr ?_, fun x c z w => ?_, fun p z w => ?_⟩
  · have z1 := frs_lt X.outer I.ok.funs _ z
    have z2 := I.ok.above
    have z3 := I1.lt
    exact absurd (Nat.lt_of_lt_of_le z1 (Nat.le_trans z2 (Nat.le_of_lt z3))) (Nat.lt_irrefl _)
  · exact Nat.le_trans I.ok.above (Nat.le_of_lt I1.lt)
  · obtain ⟨v, o, z1, _⟩ := I1.cell x c z
    have := Heap.lt_size z1
    rw [w] at this
    exact Nat.lt_irrefl _ this
  · have := Heap.lt_size (I1.pin p z).1
    rw [w] at this
    exact Nat.lt_irrefl _ this
 have I3 := I2.pinned (fp := [h1.objs.size]) (fun b z => by rw [List.mem_singleton.mp z]; exact fp) (fun b z => by
  rw [List.mem_singleton.mp z]
  exact ⟨_, hu, fun v z => by cases z⟩)
 refine PySem.W.kxs_callWith1 (h₀ := { h1 with objs := #[] }) (L := h1.objs.size + 1) (news := [(h1.objs.size, PySem.W.kxs_mw "ValueError.__init__" a)]) (x := a) (i := "ValueError.__init__") (fun p z => ?_) (List.mem_singleton.mpr rfl) ?_ he hpl
 · rw [List.mem_singleton.mp z]
   exact ⟨hu, by simp, rfl⟩
 refine wpAny_mono (ha.run pos _ _ σ H _ I3 t) (fun us s' ⟨vs, H1, J, hv, hl, h2, h3⟩ => ?_) (fun _ _ z => z)
 have hu3 : s'.heap.get? h1.objs.size = some (PySem.W.kxs_mw "ValueError.__init__" a) := by
  refine (J.pin (h1.objs.size, PySem.W.kxs_mw "ValueError.__init__" a) ?_).1
  refine List.mem_append_right _ (List.mem_append_right _ ?_)
  unfold pinsAt
  simp [hu]
 refine ⟨hu3, ?_⟩
 have J1 : Inv X pins σ H1 s' := J.unpinned
 obtain ⟨t2, gx2⟩ := exo_at J1.hok h2
 obtain ⟨h', g', d', tk', os'⟩ := s'
 have hl' : us.length ≤ sizeLine := by
  have e1 : us.length = vs.length := hv.length.symm
  rw [e1, sizeLine_eq]
  omega
 refine mw_call (inv_K J1 _ _ hCl) gx2 hu3 hl' fun h4 k4 x4 => q _ H1 ?_ h3
 have e4 : upd H1 a (exo a C none) = H1 := by
  funext b
  unfold upd
  split
  · rename_i z
    rw [z, h2]
  · rfl
 rw [← e4]
 refine J1.write (x := a) (e := a) (by rw [h2]; exact True.intro) (.inl rfl) k4 ⟨_, x4⟩ ?_
 exact ⟨⟨_, x4⟩, ⟨_, x4⟩, fun y1 y2 ⟨t5, z5⟩ z6 => ⟨t5, z6 _ z5⟩⟩
end Pd
namespace Pd
open PySem L2 NdefX
abbrev supCall (p0 p1 apos pos : Pos) (e : Expr) (es : List Expr) : Expr := .Call (.Attribute (.Call (.Name "super" p0) [] [] p1) "__init__" apos) (e :: es) [] pos
abbrev supN (name qual : Str) (params : Arguments) (body : List Stmt) (scope : Scope) (cc cda : Addr) : NF := ⟨name, qual, params, body, scope, [("__class__", cc)], cda⟩
theorem init_ok {P : Program} {w : World} {K : PySem.W.Frag} {mg : Str → Option Value} {base : Heap} {C D f cda cc : Addr} {name qual slf : Str} {params : Arguments} {scope : Scope} {dV kV doc pm ct : Value} {an : Option Addr}
 {N ps : List Str} {k : Nat} {sp : Sp} {p0 p1 apos pos spos : Pos} {e : Expr} {es : List Expr} {rest : List Stmt} {pl : Sem Bool}
 (F : SupF P K C D f cda cc (PySem.W.fnX name qual params (.Expr (supCall p0 p1 apos pos e es) spos :: rest) scope [("__class__", cc)] dV kV doc pm an (.ref cda) ct) slf)
 (hq : ∃ o, K.lookup cda = some o ∧ ∃ vs t, o.data = .fields vs ∧ vs[1]? = some (.str qual t))
 (S : NScope N ps ["__class__"] scope) (hN : N[0]? = some slf) (hslf : scope.names.lookup slf = some .local) (ks : scope.names.lookup ("super" : Str) = some .globalImplicit) (hm : mg "super" = none)
 (len : ∀ vs H Q E, sp vs H Q E → vs.length = ps.length)
 (hcall : ∀ (A : Around) (outer : List PySem.Env) (s : Shared) (H : Hp) (E : XK) (Q : Value → Shared → Prop) (s1 : Shared),
  let X := ncx CX0 P w K mg base N (supN name qual params (.Expr (supCall p0 p1 apos pos e es) spos :: rest) scope cc cda) f A outer s H E
  wpAt (model P w) X.A (.func (.Expr (supCall p0 p1 apos pos e es) spos :: rest) X.env) (attributeBase (.Call (.Name "super" p0) [] [] p1) "__init__" X.env (eval (.Call (.Name "super" p0) [] [] p1) X.env)) (fun ov s₁ => wpAny (model P w) X.A (getMethod ov "__init__" pl) (fun fx s₂ => wpAny (model P w) X.A (callWith pos fx.1 fx.2 (backTo pos (starEach (e :: es) X.env)) []) Q X.xe s₂) X.xe s₁) X.xe s1 →
  wpAt (model P w) X.A (.func (.Expr (supCall p0 p1 apos pos e es) spos :: rest) X.env) (eval (supCall p0 p1 apos pos e es) X.env) Q X.xe s1)
 (hint : ∀ L : Addr, interactive (PySem.W.envX qual scope L f (.ref cda) [("__class__", cc)]) = false)
 (hsw : ∀ L : Addr, swapsWith (supCall p0 p1 apos pos e es) none spos.line (PySem.W.envX qual scope L f (.ref cda) [("__class__", cc)]) = pure false)
 (hse : ∀ L : Addr, starEach (e :: es) (PySem.W.envX qual scope L f (.ref cda) [("__class__", cc)]) = (false, eval e (PySem.W.envX qual scope L f (.ref cda) [("__class__", cc)])) :: starEach es (PySem.W.envX qual scope L f (.ref cda) [("__class__", cc)]) ∧ (backTo pos (starEach es (PySem.W.envX qual scope L f (.ref cda) [("__class__", cc)]))).any (·.1) = false)
 (hb : ∀ (A : Around) (outer : List PySem.Env) (s : Shared) (H : Hp) (E : XK),
  let X := ncx CX0 P w K mg base N (supN name qual params (.Expr (supCall p0 p1 apos pos e es) spos :: rest) scope cc cda) f A outer s H E
  ∃ ta tr, PA X (e :: es) ta ∧ PSs X rest tr ∧
  ∀ (vs : List V) (H : Hp) (Q : VK) (E : XK), sp vs H Q E → ∃ a, vs[0]? = some (.ref a) ∧ H a = some (exo a C none) ∧ ta (startF N vs [some (.ref D)]) H fun us H1 => us.length ≤ 1000 ∧ H1 a = some (exo a C none) ∧ tr { nx := fun _ H' => Q .non H', rt := Q } (startF N vs [some (.ref D)]) H1) :
 FnOk P w K mg base CX0 (k + 1) f (PySem.W.fnX name qual params (.Expr (supCall p0 p1 apos pos e es) spos :: rest) scope [("__class__", cc)] dV kV doc pm an (.ref cda) ct) ps sp := by
 refine ⟨len, fun A outer s H args us vs Q E room env0 binds vals hsp => ?_⟩
 obtain ⟨oc, od, osl, hfn⟩ := F.fn
 obtain ⟨oq, hq1, vq, tq, hq2, hq3⟩ := hq
 have KI : K.In s.heap := fun a o h => (env0.bs a o (env0.mod.kin a o h)).1
 have hlen : vs.length = ps.length := len _ _ _ _ hsp
 obtain ⟨cl, cld, csl, hcell⟩ := F.cell
 have hHcc : H cc = none := (env0.bs _ _ (env0.mod.kin _ _ hcell)).2
 have nol : s.heap.NoLimit := by
  obtain ⟨mc, ⟨o, es', ep, z1, z2⟩, z3⟩ := env0.mod.nolimit
  exact ⟨mc, ⟨o, es', ep, (env0.bs _ _ z1).1, z2⟩, z3⟩
 refine ks_codeAny_call_defAt (by have := room.dp; omega) (KI _ _ hfn) rfl nol ⟨cda, oq, vq, tq, rfl, KI _ _ hq1, hq2, hq3⟩ rfl binds S.nocell ?_ (fun h₀ hns keep => ?_) S.co S.gen S.kind
 · intro x hx
   exact S.par _ (List.of_mem_zip hx).1
 have one : ∀ (y : Str) (c : Addr), ([(("__class__" : Str), cc)] : List (Str × Addr)).lookup y = some c → y = "__class__" ∧ c = cc := by
  intro y c z
  rw [List.lookup_cons] at z
  split at z
  · rename_i z1
    cases z
    exact ⟨eq_of_beq z1, rfl⟩
  · cases z
 have hkc : scope.names.lookup ("__class__" : Str) = some .free := S.frk _ (List.mem_singleton.mpr rfl)
 have cells : CellsAt (supN name qual params (.Expr (supCall p0 p1 apos pos e es) spos :: rest) scope cc cda).cl ["__class__"] [some (.ref D)] s.heap H := by
  refine ⟨rfl, fun y c z => ?_, fun x y c z1 z2 => ?_, fun i y z => ?_⟩
  · obtain ⟨_, rfl⟩ := one y c z
    exact ⟨hHcc, _, _, KI _ _ hcell, rfl⟩
  · rw [(one x c z1).1, (one y c z2).1]
  · cases i with
    | zero =>
     cases z
     exact ⟨cc, rfl, fun v z2 => by cases z2; exact ⟨_, rfl, _, KI _ _ hcell, rfl⟩⟩
    | succ i => cases z
 have I := inv_startN (CX := CX0) (A := A) (E := E) (f := f) (tk := s.toks + (ps.zip us).length) (F := supN name qual params (.Expr (supCall p0 p1 apos pos e es) spos :: rest) scope cc cda) S room.hd env0 hlen vals cells hns keep
 obtain ⟨ta, tr, ha, hr, hread⟩ := hb A outer s H E
 obtain ⟨a, h0, hH, ht⟩ := hread vs H Q E hsp
 have hσ : (startF N vs [some (.ref D)])[0]? = some (some (.ref a)) := by
  unfold startF
  cases vs with
  | nil => cases h0
  | cons v vs => cases h0; rfl
 refine ks_wpAt_execs_cons (ks_wpAt_Expr_any ?_ (hint _) (hsw _))
 refine sup_at (X := ncx CX0 P w K mg base N (supN name qual params (.Expr (supCall p0 p1 apos pos e es) spos :: rest) scope cc cda) f A outer s H E) (pl := pl) (Q' := fun H1 => tr { nx := fun _ H' => Q .non H', rt := Q } (startF N vs [some (.ref D)]) H1) F I rfl rfl rfl ks hkc hslf hm hN hσ hH ha ht (fun s' H1 J q => ?_) (hse _).1 (hse _).2 (hcall A outer s H E _ _)
 refine wpAt_of_wpAny (wpAny_mono (hr.run [] s' _ H1 _ J q) (fun fl s2 h2 => ?_) (fun _ _ z => z))
 have fin : ∀ (σ' : L2.St) (H' : Hp) (v : V) (u : Value), Inv (ncx CX0 P w K mg base N (supN name qual params (.Expr (supCall p0 p1 apos pos e es) spos :: rest) scope cc cda) f A outer s H E) [] σ' H' s2 → RelV v u → Q v H' → CE outer P w H s Q u s2 := fun σ' H' v u J r q => ⟨v, H', J.os, J.bare, J.base, J.hok, r, q⟩
 cases fl with
 | next =>
  obtain ⟨σ', H', J, q⟩ := h2
  exact fin σ' H' .non .none J rfl q
 | brk => obtain ⟨_, _, _, z⟩ := h2; exact z.elim
 | cont => obtain ⟨_, _, _, z⟩ := h2; exact z.elim
 | ret u =>
  obtain ⟨v, σ', H', J, r, q⟩ := h2
  exact fin σ' H' v u J r q
end Pd
namespace Pd
open PySem L2 PyProof.Rows NdefX
def FmtOk (t : TE) (σ : L2.St) : Prop := ∀ (H : Hp) (Q : VK), (∀ y : Str, y.length ≤ 11000 → Q (.str y) H) → t σ H Q
theorem js_ok : ∀ (ts : List TE) (acc : Str) (σ : L2.St) (H : Hp) (Q : Str → Hp → Prop), (∀ t ∈ ts, FmtOk t σ) → acc.length + 11000 * ts.length ≤ 16777216 → (∀ out, Q out H) → tJs ts acc σ H Q
 | [], acc, σ, H, Q, _, _, q => q acc
 | t :: ts, acc, σ, H, Q, h, l, q => by
  rw [List.length_cons] at l
  refine h t (List.mem_cons_self ..) H _ fun y hy => ?_
  have la : (acc ++ y).length = acc.length + y.length := by
   show (acc ++ y).cps.size = acc.cps.size + y.cps.size
   have := congrArg List.length (TL.tl_append (x := acc) (y := y))
   simpa using this
  refine ⟨y, rfl, by rw [la, sizeLine_eq]; omega, ?_⟩
  exact js_ok ts (acc ++ y) σ H Q (fun t ht => h t (List.mem_cons_of_mem _ ht)) (by rw [la]; omega) q
theorem fmt_str {z : Str} (hz : z.length ≤ 11000) (σ : L2.St) : FmtOk (fun _ H Q => Q (.str z) H) σ := fun H Q h => h z hz
theorem num_len (n : Nat) (h : n < 18446744073709551616) : (Str.ofString (toString ((n : Nat) : Int))).length ≤ 1100 := by
 have e : (Str.ofString (toString ((n : Nat) : Int))).cps.toList = (Nat.toDigits 10 n).map Char.toNat := TL.tl_num n
 have e2 := congrArg List.length e
 have e3 : (Str.ofString (toString ((n : Nat) : Int))).length = (Str.ofString (toString ((n : Nat) : Int))).cps.toList.length := by simp [Str.length]
 rw [e3, e2, List.length_map]
 exact Nat.le_trans (PyProof.Rows.digits10_le (k := 20) (by omega) (by omega)) (by decide)
theorem fmt_var {i : Nat} {v : V} {σ : L2.St} (hv : σ[i]? = some (some v)) (ok : okV v) : FmtOk (tFmt (tVar i)) σ := fun H Q h => by
 refine ⟨v, hv, ?_⟩
 cases v with
 | int k =>
  obtain ⟨k0, k1⟩ := ok
  refine .inr ⟨k, rfl, Nat.lt_of_lt_of_le (PySem.Flt.log2_lt_of (k := 64) (by decide) k1) (by decide), h _ ?_⟩
  obtain ⟨n, rfl⟩ := Int.eq_ofNat_of_zero_le k0
  exact Nat.le_trans (num_len n (by omega)) (by decide)
 | str z => exact .inl ⟨z, rfl, by rw [sizeLine_eq]; have : z.length ≤ 1000 := ok.1; omega, h _ (by have : z.length ≤ 1000 := ok.1; omega)⟩
 | _ => exact ok.elim
theorem fmt_varR {i : Nat} {v : V} {σ : L2.St} (hv : σ[i]? = some (some v)) (ok : okV v) : FmtOk (tFmtR (tVar i)) σ := fun H Q h => by
 refine ⟨v, hv, ?_⟩
 cases v with
 | int k =>
  obtain ⟨k0, k1⟩ := ok
  refine .inr ⟨k, rfl, Nat.lt_of_lt_of_le (PySem.Flt.log2_lt_of (k := 64) (by decide) k1) (by decide), h _ ?_⟩
  obtain ⟨n, rfl⟩ := Int.eq_ofNat_of_zero_le k0
  exact Nat.le_trans (num_len n (by omega)) (by decide)
 | str z =>
  have l1 : z.length ≤ 1000 := ok.1
  have l2 := StrLaws.reprText_len z fun c hc => Nat.lt_trans (ok.2 c hc) (by decide)
  exact .inl ⟨z, rfl, by rw [sizeLine_eq]; omega, h _ (by omega)⟩
 | _ => exact ok.elim
def clsBody : Stmt → List Stmt
 | .ClassDef _ _ _ b _ _ _ _ _ _ _ => b
 | _ => []
def sb_p0 : List Stmt → Pos | .Expr (.Call (.Attribute (.Call (.Name _ p) _ _ _) _ _) _ _ _) _ :: _ => p | _ => ⟨0, 0, 0, 0⟩
def sb_p1 : List Stmt → Pos | .Expr (.Call (.Attribute (.Call _ _ _ p) _ _) _ _ _) _ :: _ => p | _ => ⟨0, 0, 0, 0⟩
def sb_apos : List Stmt → Pos | .Expr (.Call (.Attribute _ _ p) _ _ _) _ :: _ => p | _ => ⟨0, 0, 0, 0⟩
def sb_pos : List Stmt → Pos | .Expr (.Call _ _ _ p) _ :: _ => p | _ => ⟨0, 0, 0, 0⟩
def sb_spos : List Stmt → Pos | .Expr _ p :: _ => p | _ => ⟨0, 0, 0, 0⟩
def sb_e : List Stmt → Expr | .Expr (.Call _ (e :: _) _ _) _ :: _ => e | _ => .Constant .none 0 ⟨0, 0, 0, 0⟩
def sb_es : List Stmt → List Expr | .Expr (.Call _ (_ :: es) _ _) _ :: _ => es | _ => []
def sb_rest : List Stmt → List Stmt | _ :: r => r | _ => []
end Pd
namespace Pd
open PySem L2 NdefX L2H
theorem init_okH {P : Program} {w : World} {K : PySem.W.Frag} {mg : Str → Option Value} {base : Heap} {C D f cda cc : Addr} {name qual slf : Str} {params : Arguments} {scope : Scope} {dV kV doc pm ct : Value} {an : Option Addr}
 {N ps : List Str} {k : Nat} {sp : Sp} {p0 p1 apos pos spos : Pos} {e : Expr} {es : List Expr} {rest : List Stmt} {pl : Sem Bool}
 (F : SupF P K C D f cda cc (PySem.W.fnX name qual params (.Expr (supCall p0 p1 apos pos e es) spos :: rest) scope [("__class__", cc)] dV kV doc pm an (.ref cda) ct) slf)
 (hq : ∃ o, K.lookup cda = some o ∧ ∃ vs t, o.data = .fields vs ∧ vs[1]? = some (.str qual t))
 (S : NScope N ps ["__class__"] scope) (hN : N[0]? = some slf) (hslf : scope.names.lookup slf = some .local) (ks : scope.names.lookup ("super" : Str) = some .globalImplicit) (hm : mg "super" = none)
 (len : ∀ vs H Q E, sp vs H Q E → vs.length = ps.length)
 (hcall : ∀ (A : Around) (outer : List PySem.Env) (s : Shared) (H : Hp) (E : XK) (p : Addr × Obj) (Q : Value → Shared → Prop) (s1 : Shared),
  let X := ncxH CX0 P w K mg base N (supN name qual params (.Expr (supCall p0 p1 apos pos e es) spos :: rest) scope cc cda) f A outer s H E p
  wpAt (model P w) X.A (.func (.Expr (supCall p0 p1 apos pos e es) spos :: rest) X.env) (attributeBase (.Call (.Name "super" p0) [] [] p1) "__init__" X.env (eval (.Call (.Name "super" p0) [] [] p1) X.env)) (fun ov s₁ => wpAny (model P w) X.A (getMethod ov "__init__" pl) (fun fx s₂ => wpAny (model P w) X.A (callWith pos fx.1 fx.2 (backTo pos (starEach (e :: es) X.env)) []) Q X.xe s₂) X.xe s₁) X.xe s1 →
  wpAt (model P w) X.A (.func (.Expr (supCall p0 p1 apos pos e es) spos :: rest) X.env) (eval (supCall p0 p1 apos pos e es) X.env) Q X.xe s1)
 (hint : ∀ L : Addr, interactive (PySem.W.envX qual scope L f (.ref cda) [("__class__", cc)]) = false)
 (hsw : ∀ L : Addr, swapsWith (supCall p0 p1 apos pos e es) none spos.line (PySem.W.envX qual scope L f (.ref cda) [("__class__", cc)]) = pure false)
 (hse : ∀ L : Addr, starEach (e :: es) (PySem.W.envX qual scope L f (.ref cda) [("__class__", cc)]) = (false, eval e (PySem.W.envX qual scope L f (.ref cda) [("__class__", cc)])) :: starEach es (PySem.W.envX qual scope L f (.ref cda) [("__class__", cc)]) ∧ (backTo pos (starEach es (PySem.W.envX qual scope L f (.ref cda) [("__class__", cc)]))).any (·.1) = false)
 (hb : ∀ (A : Around) (outer : List PySem.Env) (s : Shared) (H : Hp) (E : XK) (p : Addr × Obj),
  let X := ncxH CX0 P w K mg base N (supN name qual params (.Expr (supCall p0 p1 apos pos e es) spos :: rest) scope cc cda) f A outer s H E p
  ∃ ta tr, PA X (e :: es) ta ∧ PSs X rest tr ∧
  ∀ (vs : List V) (H : Hp) (Q : VK) (E : XK), sp vs H Q E → ∃ a, vs[0]? = some (.ref a) ∧ H a = some (exo a C none) ∧ ta (startF N vs [some (.ref D)]) H fun us H1 => us.length ≤ 1000 ∧ H1 a = some (exo a C none) ∧ tr { nx := fun _ H' => Q .non H', rt := Q } (startF N vs [some (.ref D)]) H1) :
 FnH P w K mg base CX0 (k + 1) f (PySem.W.fnX name qual params (.Expr (supCall p0 p1 apos pos e es) spos :: rest) scope [("__class__", cc)] dV kV doc pm an (.ref cda) ct) ps sp := by
 refine ⟨len, fun A outer s H args us vs Q E p room hot pin env0 binds vals hsp => ?_⟩
 obtain ⟨oc, od, osl, hfn⟩ := F.fn
 obtain ⟨oq, hq1, vq, tq, hq2, hq3⟩ := hq
 have KI : K.In s.heap := fun a o h => (env0.bs a o (env0.mod.kin a o h)).1
 have hlen : vs.length = ps.length := len _ _ _ _ hsp
 obtain ⟨cl, cld, csl, hcell⟩ := F.cell
 have hHcc : H cc = none := (env0.bs _ _ (env0.mod.kin _ _ hcell)).2
 have nol : s.heap.NoLimit := by
  obtain ⟨mc, ⟨o, es', ep, z1, z2⟩, z3⟩ := env0.mod.nolimit
  exact ⟨mc, ⟨o, es', ep, (env0.bs _ _ z1).1, z2⟩, z3⟩
 refine ks_codeAny_call_defAt (by have := room.dp; omega) (KI _ _ hfn) rfl nol ⟨cda, oq, vq, tq, rfl, KI _ _ hq1, hq2, hq3⟩ rfl binds S.nocell ?_ (fun h₀ hns keep => ?_) S.co S.gen S.kind
 · intro x hx
   exact S.par _ (List.of_mem_zip hx).1
 have one : ∀ (y : Str) (c : Addr), ([(("__class__" : Str), cc)] : List (Str × Addr)).lookup y = some c → y = "__class__" ∧ c = cc := by
  intro y c z
  rw [List.lookup_cons] at z
  split at z
  · rename_i z1
    cases z
    exact ⟨eq_of_beq z1, rfl⟩
  · cases z
 have hkc : scope.names.lookup ("__class__" : Str) = some .free := S.frk _ (List.mem_singleton.mpr rfl)
 have cells : CellsAt (supN name qual params (.Expr (supCall p0 p1 apos pos e es) spos :: rest) scope cc cda).cl ["__class__"] [some (.ref D)] s.heap H := by
  refine ⟨rfl, fun y c z => ?_, fun x y c z1 z2 => ?_, fun i y z => ?_⟩
  · obtain ⟨_, rfl⟩ := one y c z
    exact ⟨hHcc, _, _, KI _ _ hcell, rfl⟩
  · rw [(one x c z1).1, (one y c z2).1]
  · cases i with
    | zero =>
     cases z
     exact ⟨cc, rfl, fun v z2 => by cases z2; exact ⟨_, rfl, _, KI _ _ hcell, rfl⟩⟩
    | succ i => cases z
 have I := inv_startNH (CX := CX0) (A := A) (E := E) (f := f) (tk := s.toks + (ps.zip us).length) (F := supN name qual params (.Expr (supCall p0 p1 apos pos e es) spos :: rest) scope cc cda) S pin env0 hlen vals cells hns keep
 obtain ⟨ta, tr, ha, hr, hread⟩ := hb A outer s H E p
 obtain ⟨a, h0, hH, ht⟩ := hread vs H Q E hsp
 have hσ : (startF N vs [some (.ref D)])[0]? = some (some (.ref a)) := by
  unfold startF
  cases vs with
  | nil => cases h0
  | cons v vs => cases h0; rfl
 refine ks_wpAt_execs_cons (ks_wpAt_Expr_any ?_ (hint _) (hsw _))
 refine sup_at (X := ncxH CX0 P w K mg base N (supN name qual params (.Expr (supCall p0 p1 apos pos e es) spos :: rest) scope cc cda) f A outer s H E p) (pl := pl) (Q' := fun H1 => tr { nx := fun _ H' => Q .non H', rt := Q } (startF N vs [some (.ref D)]) H1) F I rfl rfl rfl ks hkc hslf hm hN hσ hH ha ht (fun s' H1 J q => ?_) (hse _).1 (hse _).2 (hcall A outer s H E p _ _)
 refine wpAt_of_wpAny (wpAny_mono (hr.run [] s' _ H1 _ J q) (fun fl s2 h2 => ?_) (fun _ _ z => z))
 have fin : ∀ (σ' : L2.St) (H' : Hp) (v : V) (u : Value), Inv (ncxH CX0 P w K mg base N (supN name qual params (.Expr (supCall p0 p1 apos pos e es) spos :: rest) scope cc cda) f A outer s H E p) [] σ' H' s2 → RelV v u → Q v H' → CE outer P w H s Q u s2 := fun σ' H' v u J r q => ⟨v, H', J.os, J.bare, J.base, J.hok, r, q⟩
 cases fl with
 | next =>
  obtain ⟨σ', H', J, q⟩ := h2
  exact fin σ' H' .non .none J rfl q
 | brk => obtain ⟨_, _, _, z⟩ := h2; exact z.elim
 | cont => obtain ⟨_, _, _, z⟩ := h2; exact z.elim
 | ret u =>
  obtain ⟨v, σ', H', J, r, q⟩ := h2
  exact fin σ' H' v u J r q
end Pd
namespace L2N
open PySem PySem.Spec PyProof.Rows L2
abbrev rawE (hp : Heap) (C : Addr) (us : List Value) : Heap := (hp.push (PySem.W.kdv_tup us)).push (PySem.HandSPX.excO C hp.objs.size)
theorem rawE_old {hp : Heap} {C : Addr} {us : List Value} {b : Addr} {o : Obj} (e : hp.get? b = some o) : (rawE hp C us).get? b = some o :=
 Heap.get?_push_of_some _ (Heap.get?_push_of_some _ e)
theorem rawE_new {hp : Heap} {C : Addr} {us : List Value} : (rawE hp C us).get? (hp.objs.size + 1) = some (PySem.HandSPX.excO C hp.objs.size) := by heap_get
end L2N
namespace Pd
open PySem L2 PyProof.Rows
structure CalleeC (CX : CXT) (P : Program) (w : World) (K : PySem.W.Frag) (mg : Str → Option Value) (base : Heap) (x : Str) (k : Nat) (Φ : List D → PM → Out D) : Prop where
 ex : ∃ f fd ps, FnOk P w K mg base CX k f fd ps (spP K Φ) ∧ mg x = some (.ref f) ∧ PySem.W.keepIn K (.ref f) = true ∧ Binds K fd ps []
section
variable {CX : CXT} {P : Program} {w : World} {K : PySem.W.Frag} {mg : Str → Option Value} {base : Heap} {x : Str} {st : Stmt} {N ps : List Str} {k : Nat} {g : FS} {Φ : List D → PM → Out D}
theorem CalleeC.mono {j : Nat} (c : CalleeC CX P w K mg base x k Φ) (h : k ≤ j) : CalleeC CX P w K mg base x j Φ := by
 obtain ⟨f, fd, ps, h1, h2⟩ := c.ex
 exact ⟨f, fd, ps, h1.mono h, h2⟩
end
structure ErrN (P : Program) (w : World) (K : PySem.W.Frag) (mg : Str → Option Value) (base : Heap) (x : Str) (k : Nat) (C : Addr) (nr : List Str) : Prop where
 ex : ∃ fI fd ps, OexC K C ∧ PySem.W.findIn K (.ref C) "__init__" = some (some (.ref fI)) ∧ PySem.W.typeIn K (.ref fI) = some (.type "function") ∧ FnOk P w K mg base CX0 k fI fd ps (spErr C nr) ∧
  L2H.FnH P w K mg base CX0 k fI fd ps (spErr C nr) ∧ Binds K fd ps [] ∧ mg x = some (.ref C)
end Pd
namespace Pd
open PySem L2 PyProof.Rows
def Told (c : V) (u : Value) : Prop := ∀ v, RelV c v → v = u
def tTold (c : V) : TE := fun σ H Q => Q c H
section
variable {X : Cx} {pos : Pos} {x : Str}
theorem told_ref (C : Addr) : Told (.ref C) (.ref C) := fun v r => r
theorem pe_own {C : Addr} (hg : Gl X x) (hm : X.mg x = some (.ref C)) (hd : (x == ("__debug__" : Str)) = false := by decide) : PE X (.Name x pos) (tTold (.ref C)) := pe_glob hg hm rfl hd
theorem told_ty (T : String) : Told (.ty T) (.type T) := fun v r => r
theorem pe_bty {T : String} (hg : Gl X x) (hm : X.mg x = none) (hv : bootBuiltins x = some (.type T)) (hn : x ≠ "__name__" := by decide) (hd : (x == ("__debug__" : Str)) = false := by decide) : PE X (.Name x pos) (tTold (.ty T)) := pe_bltn hg hm hv rfl hn hd
end
end Pd
namespace Pd
open PySem L2
end Pd
namespace Pu
open PySem L2 Pd
end Pu
namespace Pd
open PySem L2 StX
end Pd
namespace Pu
open PySem L2 Pd
end Pu
namespace Pd
open PySem L2 PyProof.Rows
end Pd
namespace Pu
open PySem L2 Pd
end Pu
namespace Pd
open PySem L2
end Pd
namespace Pu
open PySem L2 Pd
end Pu
namespace Pd
open PySem L2 PyProof.Rows
theorem fn_up {CX : CXT} {P : Program} {w : World} {K : PySem.W.Frag} {mg : Str → Option Value} {base : Heap} {k : Nat} {f : Addr} {fd : FuncData} {ps : List Str} {sp : Sp} (h : FnOk P w K mg base CX0 k f fd ps sp) : FnOk P w K mg base CX k f fd ps sp := by
 refine ⟨h.len, fun A outer s H args us vs Q E hr e0 hb r hsp => ?_⟩
 refine codeAny_mono (h.run A outer s H args us vs Q E hr e0 hb r hsp) fun r s' hq => ?_
 cases r with
 | error e => exact False.elim hq
 | ok fl => cases fl <;> exact hq
theorem CalleeC.of {CX : CXT} {P : Program} {w : World} {K : PySem.W.Frag} {mg : Str → Option Value} {base : Heap} {x : Str} {k : Nat} {Φ : List D → PM → Out D} (c : Callee P w K mg base x k Φ) : CalleeC CX P w K mg base x k Φ := by
 obtain ⟨f, fd, ps, h1, h2, h3, h4⟩ := c.ex
 exact ⟨f, fd, ps, fn_up h1, h2, h3, h4⟩
section
variable {CX : CXT} {P : Program} {w : World} {K : PySem.W.Frag} {mg : Str → Option Value} {base : Heap} {x : Str} {k : Nat}
def CY (CX : CXT) (P : Program) (w : World) (K : PySem.W.Frag) (mg : Str → Option Value) (base : Heap) (k : Nat) : List Str → List (List D → PM → Out D) → Prop
 | [], [] => True
 | y :: Y, Φ :: F => CalleeC CX P w K mg base y k Φ ∧ CY CX P w K mg base k Y F
 | _, _ => False
theorem CY.len : ∀ {Y : List Str} {F : List (List D → PM → Out D)}, CY CX P w K mg base k Y F → F.length = Y.length
 | [], [], _ => rfl
 | [], _ :: _, h => h.elim
 | _ :: _, [], h => h.elim
 | _ :: Y, _ :: F, h => by rw [List.length_cons, List.length_cons, CY.len h.2]
end
end Pd
namespace Hh
open PySem PySem.Spec PyProof.Rows L2 Pd
section
variable {K : PySem.W.Frag} {h : Heap} {mg : Str → Option Value} {x : Str}
theorem excB_ok {C : Addr} (b : excB K C = true) : ∃ nm q N bs bm sn sub ab col dd k0 k1 k2 k3 k5, K.lookup C = some (excClassObj nm q C N bs bm true sn sub ab col dd k0 k1 k2 k3 k5 "ValueError.__new__") ∧ PySem.HandSPX.refsVE bm = true := by
 unfold excB at b
 split at b
 · rename_i t dd cd k0 k1 k2 k3 n k5 e
   obtain ⟨nm, bs, mro, N, q, hd, sn, sub, ab, col, del⟩ := cd
   dsimp only at b
   split at b
   · rename_i C' bm
     obtain ⟨b1, b⟩ := He.ba b
     obtain ⟨b2, b⟩ := He.ba b
     obtain ⟨b3, b⟩ := He.ba b
     obtain ⟨b4, b⟩ := He.ba b
     obtain ⟨b5, b6⟩ := He.ba b
     have e1 := of_decide_eq_true b1
     have e2 := of_decide_eq_true b2
     have e3 := of_decide_eq_true b3
     cases del with
     | true => cases b5
     | false =>
      subst e1 e2 e3 b4
      exact ⟨nm, q, N, bs, bm, sn, sub, ab, col, dd, k0, k1, k2, k3, k5, e, b6⟩
   · cases b
 · cases b
structure InitF (P : Program) (K : PySem.W.Frag) (mg : Str → Option Value) (x qual : Str) (st : Stmt) (C : Addr) : Prop where
 ex : ∃ (fI cda cc : Addr) (kV doc pm ct : Value) (an : Option Addr), SupF P K C C fI cda cc (PySem.W.fnX "__init__" qual (defArgs st) (defBody st) (defScope st) [("__class__", cc)] .none kV doc pm an (.ref cda) ct) "self" ∧
  (∃ o, K.lookup cda = some o ∧ ∃ vs t, o.data = .fields vs ∧ vs[1]? = some (.str qual t)) ∧ PySem.W.findIn K (.ref C) "__init__" = some (some (.ref fI)) ∧ PySem.W.typeIn K (.ref fI) = some (.type "function")
 sup : mg "super" = none
 glob : mg x = some (.ref C)
theorem initF {P : Program} {qual : Str} {st : Stmt} (X : K.In h) (G : h.Ns mainGlobals mg) (gl : (He.Fa.glo x).ok K = true) (ns : (He.Fa.free "super").ok K = true) (e : fnI K ⟨x, qual, st⟩ = (IniD.mk x qual st).val) (b : supB K x qual P.main.file = true)
 (hp : ∃ ar : Arg, ((defArgs st).posonlyargs ++ (defArgs st).args).head? = some ar ∧ ar.arg = "self") (top : ((P.main.scope.names.lookup ("super" : Str)).isSome) = false) : InitF P K mg x qual st (He.ga K x) := by
 have b := List.all_eq_true.mp b
 have f1 := excB_ok (b (excB K (He.ga K x)) (by simp))
 have f2 := of_decide_eq_true (b (decide (PySem.W.findIn K (.ref (He.ga K x)) "__init__" = some (some (.ref (iniAd K x))))) (by simp))
 have f3 := of_decide_eq_true (b (decide (PySem.W.typeIn K (.ref (iniAd K x)) = some (.type "function"))) (by simp))
 have f4 := of_decide_eq_true (b (decide (PySem.W.findIn K (.ref (He.ga K x)) "__setattr__" = some (some (.builtin "object.__setattr__")))) (by simp))
 have f5 := of_decide_eq_true (b (decide (PySem.W.subIn K (.ref (He.ga K x)) (.type "BaseException") = some true)) (by simp))
 have f6 := of_decide_eq_true (b (decide (PySem.W.typeIn K (.ref (He.ga K x)) = some (.type "type"))) (by simp))
 have f7 := b (PySem.W.keepIn K (.ref (He.ga K x))) (by simp)
 have f8 := b (funB K (iniAd K x) (He.ga K x) qual P.main.file) (by simp)
 have f9 := b (alongB K (He.ga K x)) (by simp)
 have f10 := of_decide_eq_true (b (decide (PySem.W.mroIn K (He.ga K x) (.ref (He.ga K x)) = some true)) (by simp))
 have f11 := of_decide_eq_true (b (decide (PySem.W.subIn K (.ref (He.ga K x)) (.type "ValueError") = some true)) (by simp))
 have f12 := of_decide_eq_true (b (decide (PySem.W.nsIn K cStatics "thirdparty.any" = some none)) (by simp))
 clear b
 refine ⟨?_, He.free_ok X G ns, He.glo_ok X G gl⟩
 unfold fnI at e
 unfold funB at f8
 cases q : K.lookup (iniAd K x) with
 | none =>
  rw [q] at f8
  cases f8
 | some o =>
  obtain ⟨oc, od, dt, osl⟩ := o
  dsimp only at e
  rw [q] at e f8
  cases dt with
  | func fd =>
   obtain ⟨n1, n2, n3, n4, n5, n6, n7, n8, n9, n10, n11, n12, n13, n14, n15⟩ := fd
   have e2 : (some (n1, n2, n3, n4, n5, n6, n15) : FnI) = (some (("__init__" : Str), qual, defArgs st, FuncBody.stmts (defBody st), defScope st, mainGlobals, builtinsNs) : FnI) := e
   simp only [Option.some.injEq, Prod.mk.injEq] at e2
   obtain ⟨h1, h2, h3, h4, h5, h6, h7⟩ := e2
   subst h1 h2 h3 h4 h5 h6 h7
   dsimp only at f8
   split at f8
   · rename_i cda y cc
     obtain ⟨g1, f8⟩ := He.ba f8
     obtain ⟨g2, g3⟩ := He.ba f8
     have g1 := of_decide_eq_true g1
     subst g1
     obtain ⟨vs, file, tq, tf, ccl, cdd, ccs, z1, z2, z3, z4⟩ : ∃ vs file tq tf ccl cdd ccs, K.lookup cda = some ⟨ccl, cdd, .fields vs, ccs⟩ ∧ vs[1]? = some (Value.str n2 tq) ∧ vs[2]? = some (Value.str file tf) ∧ (P.main.file == file) = true := by
      unfold cdB at g2
      split at g2
      · rename_i ccl cdd vs ccs e1
        split at g2
        · rename_i q' tq f' tf e3 e4
          obtain ⟨k1, k2⟩ := He.ba g2
          have k1 := of_decide_eq_true k1
          subst k1
          exact ⟨vs, f', tq, tf, ccl, cdd, ccs, e1, e3, e4, k2⟩
        · cases g2
      · cases g2
     obtain ⟨cl, cld, csl, z5⟩ : ∃ cl cld csl, K.lookup cc = some ⟨cl, cld, .cell (some (.ref (He.ga K x))), csl⟩ := by
      unfold celB at g3
      split at g3
      · rename_i cl cld D csl e1
        have k1 := of_decide_eq_true g3
        rw [k1] at e1
        exact ⟨cl, cld, csl, e1⟩
      · cases g3
     obtain ⟨cd, z6, z7⟩ : ∃ cd, PySem.W.clsIn K (He.ga K x) = some cd ∧ PySem.W.alongIn K "__init__" ((cd.mro.dropWhile fun x' => x' != .ref (He.ga K x)).drop 1) = some (some (.builtin "ValueError.__init__")) := by
      unfold alongB at f9
      split at f9
      · rename_i cd e1
        exact ⟨cd, e1, of_decide_eq_true f9⟩
      · cases f9
     obtain ⟨ar, a1, a2⟩ := hp
     refine ⟨iniAd K x, cda, cc, n9, n10, n11, n14, n12, ⟨⟨f1, f4, f5, f6, f7⟩, ⟨_, _, _, q⟩, ⟨ar, a1, a2⟩, ⟨ccl, cdd, vs, ccs, file, tf, z1, z3, z4⟩, ⟨cl, cld, csl, z5⟩, ⟨cd, z6⟩, ⟨cd, z6, z7⟩, f10, f11, f12, top⟩, ⟨_, z1, vs, tq, rfl, z2⟩, f2, f3⟩
   · cases f8
  | _ => cases f8
theorem noat {f : Str} (b : noatB K x f = true) : PySem.W.findIn K (.ref (He.ga K x)) f = some none := of_decide_eq_true b
theorem xfield (b : xfieldB K x = true) : XfC K (He.ga K x) := xfB_ok b
theorem excC (b : excCB K x = true) : ExcC K (He.ga K x) := by
 have b := List.all_eq_true.mp b
 exact ⟨of_decide_eq_true (b (decide (PySem.W.findIn K (.ref (He.ga K x)) "__getattribute__" = some (some (.builtin "BaseException.__getattribute__")))) (by simp)), of_decide_eq_true (b (decide (PySem.W.findIn K (.ref (He.ga K x)) "__getattr__" = some none)) (by simp)), of_decide_eq_true (b (decide (PySem.W.subIn K (.ref (He.ga K x)) (.type "BaseException") = some true)) (by simp)),
  b (PySem.W.hasDictIn K (He.ga K x)) (by simp), of_decide_eq_true (b (decide (PySem.W.findIn K (.ref (He.ga K x)) "__class__" = some (some (.builtin "object.__class__")))) (by simp)),
  of_decide_eq_true (b (decide (PySem.W.specialIn K (.builtin "object.__class__") "__get__" = some (some (.builtin "getset_descriptor.__get__")))) (by simp)), of_decide_eq_true (b (decide (PySem.W.takesIn K (.builtin "object.__class__") = some true)) (by simp)),
  of_decide_eq_true (b (decide (PySem.W.mroIn K (He.ga K x) (.type "object") = some true)) (by simp))⟩
end
end Hh
namespace L2
open PySem PySem.Spec PyProof.Rows
def tMkV (C : Addr) (sp : Sp) (ta : TA) : TE := fun σ H Q => ta σ H fun vs H1 => vs.length ≤ 1000 ∧ ∀ a, H1 a = none → sp (.ref a :: vs) (upd H1 a (exo a C none)) (fun v H2 => v = .non ∧ Q (.ref a) H2) fun _ _ _ => False
def tMkV0 (C : Addr) : TE := fun _ H Q => ∀ a, H a = none → Q (.ref a) (upd H a (exo a C none))
section
variable {X : Cx} {pins : List (Addr × Obj)} {σ : L2.St} {C fI : Addr} {CX : CXT} {k : Nat} {fd : FuncData} {ps : List Str} {sp : Sp}
theorem made_val (T : OexC X.K C) (iC : PySem.W.findIn X.K (.ref C) "__init__" = some (some (.ref fI))) (tI : PySem.W.typeIn X.K (.ref fI) = some (.type "function")) (F1 : FnOk X.prog X.w X.K X.mg X.base CX k fI fd ps sp) (hr : Room (k + 1) X.A)
 (hb : Binds X.K fd ps []) (hx : Passes CX X (fun _ _ _ => False)) {us : List Value} {vs : List V} {s1 : Shared} {H1 : Hp} {Q : VK} (J : Inv X pins σ H1 s1) (rel : Vals vs us) (short : vs.length ≤ 1000)
 (q1 : ∀ a, H1 a = none → sp (.ref a :: vs) (upd H1 a (exo a C none)) (fun v H2 => v = .non ∧ Q (.ref a) H2) fun _ _ _ => False) :
 wpAny (model X.prog X.w) X.A (call (.ref C) us) (EP X pins σ Q) X.xe s1 := by
 rcases T.cls with ⟨nm, qn, nsA, bs, bm, y1, y2, y3, y4, y5, z0, z1, z2, z3, z5, look, bmOk⟩
 rcases s1 with ⟨hp, g, dr, tk, os⟩
 have free1 : H1 (hp.objs.size + 1) = none := J.hok.fresh (Nat.le_succ _)
 have want := q1 _ free1
 have J2 : Inv X pins σ (upd H1 (hp.objs.size + 1) (exo (hp.objs.size + 1) C none)) ⟨L2N.rawE hp C us, g, dr, tk, os⟩ :=
  J.laid (t' := tk) (h' := L2N.rawE hp C us) (fun _ _ e => L2N.rawE_old e) (Nat.le_succ _) (exo_ok L2N.rawE_new)
 have rel2 : Vals (V.ref (hp.objs.size + 1) :: vs) (Value.ref (hp.objs.size + 1) :: us) := .cons rfl rel
 have cnt := F1.len _ _ _ _ want
 rw [List.length_cons] at cnt
 have cntU : (Value.ref (hp.objs.size + 1) :: us ++ []).length = ps.length := by
  rw [List.append_nil, ← rel2.length, List.length_cons]
  exact cnt
 have few : us.length ≤ sizeLine := by
  have e := Paired.length rel
  rw [sizeLine_eq]
  omega
 have bnd := hb _ (Value.ref (hp.objs.size + 1) :: us) J2.kIn cntU
 rw [List.append_nil] at bnd
 have body := F1.run _ X.stack _ _ ⟨Value.ref (hp.objs.size + 1) :: us, []⟩ (Value.ref (hp.objs.size + 1) :: us) _ _ (fun _ _ _ => False) (hr.make C us []) (J2.env0.make C us []) bnd rel2 want
 refine wpAny_call (PySem.HandSPX.call_own F.excBase_ValueError (fun Y => PySem.HandSPX.refsVE_contains Y bm bmOk) (J.kIn _ _ look) (PySem.W.looks_findIn J.kIn iC) (fun u => PySem.W.bind_fn J.kIn u tI) few (codeAny_mono body ?_))
 rintro (er | fl) s2 after
 · exact hx pins σ _ _ er s2 J2 after
 · cases fl with
   | ret u =>
    obtain ⟨v, H', I', rv, ev, q⟩ := J2.after after
    subst ev
    exact ⟨rv, .ref (hp.objs.size + 1), H', I', rfl, q⟩
   | _ => exact False.elim after
theorem pe_mkV {x : Str} {e : Expr} {es : List Expr} {ta : TA} {p pos : Pos} (T : OexC X.K C) (iC : PySem.W.findIn X.K (.ref C) "__init__" = some (some (.ref fI))) (tI : PySem.W.typeIn X.K (.ref fI) = some (.type "function")) (F1 : FnOk X.prog X.w X.K X.mg X.base CX k fI fd ps sp) (hr : Room (k + 1) X.A)
 (hb : Binds X.K fd ps []) (hx : Passes CX X (fun _ _ _ => False)) (hg : Gl X x) (hm : X.mg x = some (.ref C)) (ha : PA X (e :: es) ta) (hdb : (x == ("__debug__" : Str)) = false := by decide)
 (he : starEach (e :: es) X.env = (false, eval e X.env) :: starEach es X.env := by rfl) (hpl : (backTo pos (starEach es X.env)).any (·.1) = false := by rfl) : PE X (.Call (.Name x p) (e :: es) [] pos) (tMkV C sp ta) := ⟨by
 rintro pins s σ H Q I h
 refine wpAny_Call_Name_kw (ld_glob I hg hm ?_ hdb)
 refine PySem.W.callWith_K (h₀ := X.base) I.ok.mod.kin T.kC (thn (ha.run pos pins s σ H _ I h) ?_) he hpl
 rintro us s1 ⟨vs, H1, J, rel, sh, q1⟩
 exact ⟨J.kIn, made_val T iC tI F1 hr hb hx J rel sh q1⟩⟩
structure Oex0 (K : PySem.W.Frag) (C : Addr) : Prop where
 cls : ∃ nm q N bs bm sn sub ab col dd k0 k1 k2 k3 k5, K.lookup C = some (excClassObj nm q C N bs bm true sn sub ab col dd k0 k1 k2 k3 k5 "ValueError.__new__") ∧ PySem.HandSPX.refsVE bm = true
 init : PySem.W.findIn K (.ref C) "__init__" = some (some (.builtin "ValueError.__init__"))
 kC : PySem.W.keepIn K (.ref C) = true
theorem pe_mkV0 {x : Str} {p pos : Pos} (T : Oex0 X.K C) (hg : Gl X x) (hm : X.mg x = some (.ref C)) (hdb : (x == ("__debug__" : Str)) = false := by decide) : PE X (.Call (.Name x p) [] [] pos) (tMkV0 C) := ⟨by
 rintro pins s σ H Q I h
 refine wpAny_Call_Name_kw (ld_glob I hg hm ?_ hdb)
 rcases T.cls with ⟨nm, qn, nsA, bs, bm, y1, y2, y3, y4, y5, z0, z1, z2, z3, z5, look, bmOk⟩
 rcases s with ⟨hp, g, dr, tk, os⟩
 refine PySem.W.callWith_K0 (K := X.K) I.kIn T.kC ?_
 refine PySem.W.call_B F.excBase_ValueError (fun Y => PySem.HandSPX.refsVE_contains Y bm bmOk) (I.kIn _ _ look) (PySem.W.looks_findIn I.kIn T.init) (by show (0 : Nat) ≤ sizeLine; exact Nat.zero_le _) fun h' keep at1 at2 => ?_
 have free1 : H (hp.objs.size + 1) = none := I.hok.fresh (Nat.le_succ _)
 exact ⟨.ref (hp.objs.size + 1), _, I.laid (t' := tk) keep (Nat.le_succ _) (exo_ok at1), rfl, h _ free1⟩⟩
end
def rIsV (K : PySem.W.Frag) : List V → Hp → VK → Prop := fun xs H Q => ∃ (a : Addr) (c : V) (b : Bool) (C : Addr) (od : Option Addr) (u : Value), xs = [.ref a, c] ∧ ExcC K C ∧ H a = some (exo a C od) ∧ (od = none ∨ ∃ dd fs, od = some dd ∧ H dd = some (exd dd fs)) ∧ Q (.bl b) H ∧ Pd.Told c u ∧ PySem.W.kitOne K (.ref C) u = some b
theorem call_isV {X : Cx} : CallR X (.builtin "isinstance") (rIsV X.K) := by
 rintro pins s σ H xs us Q I r ⟨a, c, b, C, od, u, rfl, F, hx, hd, q, tu, hk⟩
 rcases r with _ | ⟨rx, _ | ⟨rc, _ | _⟩⟩
 cases rx
 rename_i uc
 obtain ⟨t1, at1⟩ := exo_at I.hok hx
 have at_ : ∃ oo, PySem.W.InstAt s.heap a ⟨.ref C, od, .fields #[.ref t1, .none, .none, .none, .bool false, .none], #[]⟩ C oo := by
  rcases hd with rfl | ⟨dd, fs, rfl, hdd⟩
  · exact ⟨none, at1, rfl, rfl, trivial⟩
  · obtain ⟨⟨mA, ⟨o, es, ep, ho, _⟩, _⟩, _⟩ := I.hok dd _ hdd
    exact ⟨some o, at1, rfl, rfl, ho⟩
 obtain ⟨oo, at_⟩ := at_
 have hcl : (PySem.W.clsIn X.K C).isSome = true := by
  obtain ⟨cd, e, _⟩ := PySem.W.any_some F.hd
  rw [e] <;> rfl
 have kit := PySem.W.kitx_exc (x := a) (ox := ⟨.ref C, od, .fields #[.ref t1, .none, .none, .none, .bool false, .none], #[]⟩) (od := oo) hcl F.hg F.hk F.hs F.ha F.hn F.ht F.hm
 rw [tu _ rc]
 exact PySem.W.kia_one kit I.kIn at_ hk (fun z => nomatch z) fun tk => ⟨.bl b, H, I.kept (t' := tk) fun _ _ z => z, rfl, q⟩
def tXv (C : Addr) (f : Str) (te : TE) : TE := fun σ H Q => te σ H fun x H1 => ∃ (a dd : Addr) (fs : List (Str × V)) (v : V), x = .ref a ∧ H1 a = some (exo a C (some dd)) ∧ H1 dd = some (exd dd fs) ∧ fs.lookup f = some v ∧ Q v H1
theorem pe_fldV {X : Cx} {C : Addr} {e : Expr} {te : TE} {pos : Pos} {n : Str} (T : XfC X.K C) (hno : PySem.W.findIn X.K (.ref C) n = some none) (he : PE X e te) (hb : attributeBase e n X.env (eval e X.env) = eval e X.env := by rfl) : PE X (.Attribute e n pos) (tXv C n te) := ⟨by
 rintro pins s σ H Q I h
 refine attr_of hb (thn (he.run pins s σ H _ I h) ?_)
 rintro u s1 ⟨x, H1, J, r, a, dd, fs, v, rfl, ha, hd, hv, q⟩
 cases r
 obtain ⟨t1, at1⟩ := exo_at J.hok ha
 obtain ⟨⟨mA, ns, rel⟩, _⟩ := J.hok dd _ hd
 obtain ⟨od, ho, look⟩ := lookIn_ns ns
 have rn := rel n
 rw [hv] at rn
 obtain ⟨w, e1, rw_⟩ := RelO.some_of rn
 have at_ : PySem.W.InstAt s1.heap a ⟨.ref C, some dd, .fields #[.ref t1, .none, .none, .none, .bool false, .none], #[]⟩ C (some od) := ⟨at1, rfl, rfl, ho⟩
 refine PySem.HandSPX.exc_get J.kIn at_ T.ga T.gg T.exC (PySem.W.findObj_own T.hdC hno rfl (by rw [look n, e1])) (handed_of rw_) ?_
 exact ⟨v, H1, J.tok _, rw_, q⟩⟩
end L2
namespace Pd
open PySem L2 PyProof.Rows
def pMkV (C : Addr) (n : Str) (nr : List Str) (fa : FA) : FE := fun ρ M => (fa ρ M).bind fun ds M1 => if ds.length = nr.length ∧ nr.length ≤ 1000 ∧ ds.all okD = true then .ok (.adr M1.length) (M1 ++ [.err C n (nr.zip ds.reverse)]) else .bad
def pMkV0 (C : Addr) (n : Str) : FE := fun ρ M => .ok (.adr M.length) (M ++ [.err C n []])
def errOf (M : PM) : D → Option (Addr × Str × List (Str × D))
 | .adr i => match M[i]? with
  | some (.err C n fs) => some (C, n, fs)
  | _ => none
 | _ => none
def pIsV (cx : Str → Addr) (tbl : List (Str × Bool)) (g : FE) : FE := fun ρ M => (g ρ M).bind fun d M1 => match errOf M1 d with
 | some (C, n, _) => match tbl.lookup n with
  | some b => if C = cx n then .ok (.bl b) M1 else .bad
  | none => .bad
 | none => .bad
def pFldV (C : Addr) (f : Str) (g : FE) : FE := fun ρ M => (g ρ M).bind fun d M1 => match errOf M1 d with
 | some (C', _, fs) => if C' = C then (match fs.lookup f with | some x => .ok x M1 | none => .bad) else .bad
 | none => .bad
section
variable {K : PySem.W.Frag} {E : XK} {α : List Addr} {H : Hp}
theorem errOf_ok {M : PM} {d : D} {C : Addr} {n : Str} {fs : List (Str × D)} {x : V} (w : Wd K α M H) (r : Rep K α H d x) (h : errOf M d = some (C, n, fs)) : ∃ a, x = .ref a ∧ ErrR K α H a C fs := by
 unfold errOf at h
 split at h
 · rename_i i
   split at h
   · rename_i C' n' fs' hi
     injection h with h
     injection h with h1 h2
     injection h2 with h2 h3
     subst h1 h2 h3
     obtain ⟨a, e1, o1⟩ := w.ob i _ hi
     cases r with
     | adr e =>
      rw [e1] at e
      cases e
      exact ⟨_, rfl, o1⟩
   · cases h
 · cases h
theorem r_mkV {C : Addr} {n : Str} {nr : List Str} {ta : TA} {fa : FA} (ha : RA K E ta fa) : RE K E (tMkV C (spErr C nr) ta) (pMkV C n nr fa) := fun ρ σ H α M Q e w h =>
 ha ρ σ H α M _ e w (bnd h fun as M1 xs α1 H1 _ s1 w1 r1 q => by
  obtain ⟨⟨h1, h2, h3⟩, q⟩ := ifb q
  refine ⟨by rw [← r1.length, h1]; exact h2, fun a hna => ?_⟩
  refine ⟨a, xs, rfl, by rw [← r1.length, h1], okD_ok r1 h3, upd_same, fun d H2 hd hda e1 e2 e3 => ⟨rfl, ?_⟩⟩
  have hd1 : H1 d = none := by rw [upd_ne hda] at hd; exact hd
  have e4 : H2 = upd (upd H1 d (exd d (nr.zip xs.reverse))) a (exo a C (some d)) := by
   funext b
   by_cases hba : b = a
   · subst hba
     rw [upd_same, e1]
   · rw [upd_ne hba]
     by_cases hb : b = d
     · subst hb
       rw [upd_same, e2]
     · rw [upd_ne hb, e3 b hba hb, upd_ne hba]
  rw [e4]
  have l1 : (nr.zip as.reverse).map (·.1) = nr := List.map_fst_zip (by rw [List.length_reverse, h1]; exact Nat.le_refl _)
  have l2 : (nr.zip as.reverse).map (·.2) = as.reverse := List.map_snd_zip (by rw [List.length_reverse, h1]; exact Nat.le_refl _)
  have st : Step α1 H1 α1 (upd H1 d (exd d (nr.zip xs.reverse))) := Step.ex (ex_new hd1)
  have w2 : Wd K α1 M1 (upd H1 d (exd d (nr.zip xs.reverse))) := w1.ex (ex_new hd1)
  have nd : d ∉ α1 := fun z => by
   obtain ⟨o, eo⟩ := w1.there z
   rw [hd1] at eo
   cases eo
  have ha2 : upd H1 d (exd d (nr.zip xs.reverse)) a = none := by rw [upd_ne (Ne.symm hda)]; exact hna
  obtain ⟨w3, s3⟩ := w2.new (m := .err C n (nr.zip as.reverse)) (o := exo a C (some d)) ha2 fun H' s' e' => by
   refine .inr ⟨d, xs.reverse, e', ?_, s'.out upd_same nd, ?_⟩
   · rw [l1]
     exact s'.pr _ _ upd_same nd
   · rw [l2]
     exact RepL.step s' _ _ (RepL.step st _ _ (repL_rev r1))
  exact q _ _ _ (st.tr w2 s3) w3 (.adr (by rw [← w1.len, List.getElem?_append_right (Nat.le_refl _), Nat.sub_self]; rfl)))
theorem r_mkV0 {C : Addr} {n : Str} : RE K E (tMkV0 C) (pMkV0 C n) := fun ρ σ H α M Q e w h a hna => by
 obtain ⟨w3, s3⟩ := w.new (m := .err C n []) (o := exo a C none) hna fun H' s' e' => .inl ⟨rfl, e'⟩
 exact h _ _ _ s3 w3 (.adr (by rw [← w.len, List.getElem?_append_right (Nat.le_refl _), Nat.sub_self]; rfl))
end
section
variable {X : Cx} {E : XK} {e ev ce : Expr} {es : List Expr} {pos p rpos : Pos} {x : Str}
theorem pd_mkV {k : Nat} {C : Addr} {nr : List Str} {fargs : FA} {n : Str} (c : ErrN X.prog X.w X.K X.mg X.base x k C nr) (hr : Room (k + 1) X.A) (hg : Gl X x) (ha : PDA X E (e :: es) fargs) (hdb : (x == ("__debug__" : Str)) = false := by decide)
 (he : starEach (e :: es) X.env = (false, eval e X.env) :: starEach es X.env := by rfl) (hpl : (backTo pos (starEach es X.env)).any (·.1) = false := by rfl) : PD X E (.Call (.Name x p) (e :: es) [] pos) (pMkV C n nr fargs) := by
 obtain ⟨fI, fd, ps, h1, h2, h3, h4, _, h5, h6⟩ := c.ex
 obtain ⟨t, ha, r⟩ := ha
 exact ⟨_, pe_mkV h1 h2 h3 h4 hr h5 (fun _ _ _ _ _ _ _ z => z.elim) hg h6 ha hdb he hpl, r_mkV r⟩
theorem pd_mkV0 {C : Addr} {n : Str} (T : Oex0 X.K C) (hg : Gl X x) (hm : X.mg x = some (.ref C)) (hdb : (x == ("__debug__" : Str)) = false := by decide) : PD X E (.Call (.Name x p) [] [] pos) (pMkV0 C n) :=
 ⟨_, pe_mkV0 T hg hm hdb, r_mkV0⟩
structure IsNm (K : PySem.W.Frag) (cx : Str → Addr) (t : List (Str × Bool)) (u : Value) : Prop where
 k : ∀ n b, t.lookup n = some b → ExcC K (cx n) ∧ PySem.W.kitOne K (.ref (cx n)) u = some b
theorem pd_isV {cx : Str → Addr} {t : List (Str × Bool)} {u : Value} {g : FE} (I : IsNm X.K cx t u) (hg : Gl X "isinstance") (hm : X.mg "isinstance" = none) (hv : PD X E ev g) {c : V} (hc : PE X ce (tTold c)) (tu : Told c u)
 (h1 : starEach [ev, ce] X.env = (false, eval ev X.env) :: starEach [ce] X.env := by rfl) (h2 : starEach [ce] X.env = (false, eval ce X.env) :: starEach [] X.env := by rfl) (hpl : (backTo pos (starEach [ce] X.env)).any (·.1) = false := by rfl) :
 PD X E (.Call (.Name "isinstance" p) [ev, ce] [] pos) (pIsV cx t g) := by
 obtain ⟨te, pe, re⟩ := hv
 refine ⟨_, pe_callB (X := X) call_isV hg hm rfl (pa_cons pe (pa_cons hc pa_nil h2) h1) (by decide) (by decide) h1 hpl, fun ρ σ H α M Q e w h => ?_⟩
 refine re ρ σ H α M _ e w (bnd h fun d M1 v α1 H1 _ s1 w1 r1 q => ?_)
 cases he : errOf M1 d with
 | none => rw [he] at q; exact q.elim
 | some z =>
  obtain ⟨C, n, fs⟩ := z
  rw [he] at q
  simp only at q
  cases hl : t.lookup n with
  | none => rw [hl] at q; exact q.elim
  | some b =>
   rw [hl] at q
   simp only at q
   obtain ⟨hC, _⟩ := ifb q
   subst hC
   rw [if_pos rfl] at q
   obtain ⟨a, rfl, er⟩ := errOf_ok w1 r1 he
   obtain ⟨f1, f2⟩ := I.k n b hl
   rcases er with ⟨_, e1⟩ | ⟨dd, vs, e1, e2, _, _⟩
   · exact ⟨a, c, b, _, _, u, rfl, f1, e1, .inl rfl, q.now w1 (.bl b), tu, f2⟩
   · exact ⟨a, c, b, _, _, u, rfl, f1, e1, .inr ⟨dd, _, rfl, e2⟩, q.now w1 (.bl b), tu, f2⟩
theorem lookup_zipR {K : PySem.W.Frag} {α : List Addr} {H : Hp} {f : Str} : ∀ {fs : List (Str × D)} {vs : List V} {d : D}, RepL K α H (fs.map (·.2)) vs → fs.lookup f = some d → ∃ v, ((fs.map (·.1)).zip vs).lookup f = some v ∧ Rep K α H d v
 | [], _, _, _, h => by cases h
 | (g, x) :: fs, _, d, .cons (v := v) (vs := vs) r t, h => by
  rw [List.map_cons, List.zip_cons_cons, List.lookup_cons]
  rw [List.lookup_cons] at h
  by_cases c : (f == g) = true
  · simp only [c] at h ⊢
    injection h with h
    subst h
    exact ⟨v, rfl, r⟩
  · simp only [c] at h ⊢
    exact lookup_zipR t h
theorem pd_fldV {C : Addr} {f : Str} {g : FE} (T : XfC X.K C) (hno : PySem.W.findIn X.K (.ref C) f = some none) (hv : PD X E e g) (hb : attributeBase e f X.env (eval e X.env) = eval e X.env := by rfl) : PD X E (.Attribute e f pos) (pFldV C f g) := by
 obtain ⟨te, pe, re⟩ := hv
 refine ⟨_, pe_fldV T hno pe hb, fun ρ σ H α M Q e w h => ?_⟩
 refine re ρ σ H α M _ e w (bnd h fun d M1 v α1 H1 _ s1 w1 r1 q => ?_)
 cases he : errOf M1 d with
 | none => rw [he] at q; exact q.elim
 | some z =>
  obtain ⟨C', n, fs⟩ := z
  rw [he] at q
  simp only at q
  obtain ⟨hC, _⟩ := ifb q
  subst hC
  rw [if_pos rfl] at q
  obtain ⟨a, rfl, er⟩ := errOf_ok w1 r1 he
  cases hl : fs.lookup f with
  | none => rw [hl] at q; exact q.elim
  | some y =>
   rw [hl] at q
   rcases er with ⟨e0, _⟩ | ⟨dd, vs, e1, e2, e3, e4⟩
   · subst e0; cases hl
   · obtain ⟨v, h5, h6⟩ := lookup_zipR e4 hl
     exact ⟨a, dd, _, v, rfl, e1, e2, h5, q.now w1 h6⟩
end
end Pd
namespace Hh
open PySem PySem.Spec PyProof.Rows L2 Pd
variable {K : PySem.W.Frag} {x : Str}
theorem oex0 (b : mk0B K x = true) : Oex0 K (He.ga K x) := by
 have b := List.all_eq_true.mp b
 exact ⟨excB_ok (b (excB K (He.ga K x)) (by simp)), of_decide_eq_true (b (decide (PySem.W.findIn K (.ref (He.ga K x)) "__init__" = some (some (.builtin "ValueError.__init__")))) (by simp)), b (PySem.W.keepIn K (.ref (He.ga K x))) (by simp)⟩
theorem isNm {t : List (Str × Bool)} {u : PySem.W.Frag → Value} (b : kit1B K t u = true) : IsNm K (He.ga K) t (u K) := ⟨fun n r h => by
 have hm : (n, r) ∈ t := by
  clear b
  induction t with
  | nil => cases h
  | cons p t ih =>
   obtain ⟨k, v⟩ := p
   rw [List.lookup_cons] at h
   split at h
   · rename_i e
     cases h
     rw [eq_of_beq e]
     exact List.mem_cons_self
   · exact List.mem_cons_of_mem _ (ih h)
 have := List.all_eq_true.mp b _ hm
 exact ⟨excC (He.ba this).1, of_decide_eq_true (He.ba this).2⟩⟩
end Hh
namespace G
open PySem L2 Pd Pu PyProof.Rows
noncomputable section
def topS (i : Nat) : Stmt := PySem.Challenge.pw_carryclaim_k45_errors_of_their_own.main.body.getD i (.Pass ⟨0, 0, 0, 0⟩)
abbrev s__law_next : Stmt := topS 13
def g__law_next : FS :=
 sSeq (sIf (pTest (pOp gGt (pOp gIx (pVar 0) (pC (.int 1))) (pC (.int 0)))) (sSeq (sAsg (pOp gMod (pCB bInt (aCons (pOp gIx (pVar 0) (pC (.int 1))) (aNil))) (pVar 2)) (fName 4))
  (sSeq (sAsg (pOp gFdiv (pCB bInt (aCons (pOp gIx (pVar 0) (pC (.int 1))) (aNil))) (pVar 2)) (fSub (pVar 0) (pC (.int 1))))
  (sRet (pVar 4)))) (sNext))
 (sSeq (sAsg (pC (.int 0)) (fName 3))
 (sSeq (sIf (pTest (pOp gLt (pOp gIx (pVar 0) (pC (.int 0))) (pCB bLen (aCons (pVar 1) (aNil))))) (sAsg (pCB bAbs (aCons (pCB bInt (aCons (pOp gIx (pVar 1) (pOp gIx (pVar 0) (pC (.int 0)))) (aNil))) (aNil))) (fName 3)) (sNext))
 (sSeq (sAsg (pOp gAdd (pOp gIx (pVar 0) (pC (.int 0))) (pC (.int 1))) (fSub (pVar 0) (pC (.int 0))))
 (sSeq (sIf (pTest (pOp gGe (pVar 3) (pOp gPow (pC (.int 10)) (pC (.int 18))))) (sSeq (sAsg (pOp gFdiv (pVar 3) (pVar 2)) (fSub (pVar 0) (pC (.int 1))))
  (sRet (pOp gMod (pCB bInt (aCons (pVar 3) (aNil))) (pVar 2)))) (sNext))
 (sSeq (sAsg (pOp gMod (pCB bInt (aCons (pOp gAdd (pOp gAdd (pOp gMul (pOp gIx (pVar 0) (pC (.int 2))) (pC (.int 48271))) (pOp gMul (pVar 3) (pC (.int 69621)))) (pC (.int 12345))) (aNil))) (pC (.int 2147483647))) (fSub (pVar 0) (pC (.int 2))))
 (sRet (pOp gMod (pCB bInt (aCons (pOp gAdd (pOp gFdiv (pOp gIx (pVar 0) (pC (.int 2))) (pC (.int 7))) (pOp gFdiv (pOp gMul (pOp gIx (pVar 0) (pC (.int 2))) (pOp gIx (pVar 0) (pC (.int 2)))) (pC (.int 65537)))) (aNil))) (pVar 2))))))))
abbrev N__law_next : List Str := [Str.ofString "state", Str.ofString "script", Str.ofString "many", Str.ofString "cell", Str.ofString "answer"]
theorem sc__law_next : FnScope N__law_next [Str.ofString "state", Str.ofString "script", Str.ofString "many"] (defScope s__law_next) := ⟨rfl, rfl, rfl, by decide +kernel, rfl, by decide +kernel, by decide +kernel⟩
def Φ__law_next : List D → PM → Out D := Pd.run 3 N__law_next (g__law_next)
theorem ok__law_next {P : Program} {w : World} {K : PySem.W.Frag} {mg : Str → Option Value} {base : Heap} (F : FunM K mg "_law_next" s__law_next [Str.ofString "state", Str.ofString "script", Str.ofString "many"]) (m_int : mg "int" = none) (m_len : mg "len" = none) (m_abs : mg "abs" = none) :
 Callee P w K mg base "_law_next" 1 (Pd.run 3 N__law_next (g__law_next)) := by
 refine callee_run F sc__law_next rfl fun f cdv A outer s H E hr => ?_
 have nd := sc__law_next.nd
 exact pdb_cons (pds_if (pdt_cmp o_gt (pd_ix (pd_var 0) (pd_int)) (pd_int) (nomark _)) (pdb_cons (pds_set 4 (pd_op o_mod (pd_callT b_int rfl m_int (by decide +kernel) (pda_cons (pd_ix (pd_var 0) (pd_int)) (pda_nil))) (pd_var 2)) nd)
  (pdb_cons (pds_asg (pd_op o_fdiv (pd_callT b_int rfl m_int (by decide +kernel) (pda_cons (pd_ix (pd_var 0) (pd_int)) (pda_nil))) (pd_var 2)) (pdg_sub (pd_var 0) (pd_int)))
  (pdb_one (pds_ret (pd_var 4))))) (pdb_nil))
  (pdb_cons (pds_set 3 (pd_int) nd)
  (pdb_cons (pds_if (pdt_cmp o_lt (pd_ix (pd_var 0) (pd_int)) (pd_callB b_len rfl m_len (by decide +kernel) (pda_cons (pd_var 1) (pda_nil))) (nomark _)) (pdb_one (pds_set 3 (pd_callB b_abs rfl m_abs (by decide +kernel) (pda_cons (pd_callT b_int rfl m_int (by decide +kernel) (pda_cons (pd_ix (pd_var 1) (pd_ix (pd_var 0) (pd_int))) (pda_nil))) (pda_nil))) nd)) (pdb_nil))
  (pdb_cons (pds_asg (pd_op o_add (pd_ix (pd_var 0) (pd_int)) (pd_int)) (pdg_sub (pd_var 0) (pd_int)))
  (pdb_cons (pds_if (pdt_cmp o_ge (pd_var 3) (pd_op o_pow (pd_int) (pd_int)) (nomark _)) (pdb_cons (pds_asg (pd_op o_fdiv (pd_var 3) (pd_var 2)) (pdg_sub (pd_var 0) (pd_int)))
   (pdb_one (pds_ret (pd_op o_mod (pd_callT b_int rfl m_int (by decide +kernel) (pda_cons (pd_var 3) (pda_nil))) (pd_var 2))))) (pdb_nil))
  (pdb_cons (pds_asg (pd_op o_mod (pd_callT b_int rfl m_int (by decide +kernel) (pda_cons (pd_op o_add (pd_op o_add (pd_op o_mul (pd_ix (pd_var 0) (pd_int)) (pd_int)) (pd_op o_mul (pd_var 3) (pd_int))) (pd_int)) (pda_nil))) (pd_int)) (pdg_sub (pd_var 0) (pd_int)))
  (pdb_one (pds_ret (pd_op o_mod (pd_callT b_int rfl m_int (by decide +kernel) (pda_cons (pd_op o_add (pd_op o_fdiv (pd_ix (pd_var 0) (pd_int)) (pd_int)) (pd_op o_fdiv (pd_op o_mul (pd_ix (pd_var 0) (pd_int)) (pd_ix (pd_var 0) (pd_int))) (pd_int))) (pda_nil))) (pd_var 2)))))))))
abbrev s__law_kinds : Stmt := topS 14
def g__law_kinds (cx : Str → Addr) : FS :=
 sSeq (sAsg (pLst (aCons (pIsV cx [("ClaimError", false), ("SyntaxProblem", true), ("ProgramProblem", false), ("PaperProblem", false), ("EditProblem", false), ("Clash", false), ("NoVersion", false), ("JournalProblem", false), ("Full", false), ("NotMergeable", false), ("NotEdited", false)] (pVar 0)) (aCons (pIsV cx [("ClaimError", false), ("SyntaxProblem", false), ("ProgramProblem", true), ("PaperProblem", false), ("EditProblem", false), ("Clash", false), ("NoVersion", false), ("JournalProblem", false), ("Full", false), ("NotMergeable", false), ("NotEdited", false)] (pVar 0)) (aCons (pIsV cx [("ClaimError", false), ("SyntaxProblem", false), ("ProgramProblem", false), ("PaperProblem", true), ("EditProblem", false), ("Clash", false), ("NoVersion", false), ("JournalProblem", false), ("Full", false), ("NotMergeable", false), ("NotEdited", false)] (pVar 0)) (aNil))))) (fName 1))
 (sSeq (sAsg (pOp gAdd (pVar 1) (pLst (aCons (pIsV cx [("ClaimError", false), ("SyntaxProblem", false), ("ProgramProblem", false), ("PaperProblem", false), ("EditProblem", true), ("Clash", false), ("NoVersion", false), ("JournalProblem", false), ("Full", false), ("NotMergeable", false), ("NotEdited", false)] (pVar 0)) (aCons (pIsV cx [("ClaimError", false), ("SyntaxProblem", false), ("ProgramProblem", false), ("PaperProblem", false), ("EditProblem", false), ("Clash", true), ("NoVersion", false), ("JournalProblem", false), ("Full", false), ("NotMergeable", false), ("NotEdited", false)] (pVar 0)) (aCons (pIsV cx [("ClaimError", false), ("SyntaxProblem", false), ("ProgramProblem", false), ("PaperProblem", false), ("EditProblem", false), ("Clash", false), ("NoVersion", true), ("JournalProblem", false), ("Full", false), ("NotMergeable", false), ("NotEdited", false)] (pVar 0)) (aNil)))))) (fName 1))
 (sSeq (sAsg (pOp gAdd (pVar 1) (pLst (aCons (pIsV cx [("ClaimError", false), ("SyntaxProblem", false), ("ProgramProblem", false), ("PaperProblem", false), ("EditProblem", false), ("Clash", false), ("NoVersion", false), ("JournalProblem", true), ("Full", false), ("NotMergeable", false), ("NotEdited", false)] (pVar 0)) (aCons (pIsV cx [("ClaimError", false), ("SyntaxProblem", false), ("ProgramProblem", false), ("PaperProblem", false), ("EditProblem", false), ("Clash", false), ("NoVersion", false), ("JournalProblem", false), ("Full", true), ("NotMergeable", false), ("NotEdited", false)] (pVar 0)) (aCons (pIsV cx [("ClaimError", false), ("SyntaxProblem", false), ("ProgramProblem", false), ("PaperProblem", false), ("EditProblem", false), ("Clash", false), ("NoVersion", false), ("JournalProblem", false), ("Full", false), ("NotMergeable", true), ("NotEdited", false)] (pVar 0)) (aCons (pIsV cx [("ClaimError", false), ("SyntaxProblem", false), ("ProgramProblem", false), ("PaperProblem", false), ("EditProblem", false), ("Clash", false), ("NoVersion", false), ("JournalProblem", false), ("Full", false), ("NotMergeable", false), ("NotEdited", true)] (pVar 0)) (aNil))))))) (fName 1))
 (sRet (pLc (pRng1 (aCons (pC (.int 10)) (aNil))) (fName 2) (pTest (pOp gIx (pVar 1) (pVar 2))) (pVar 2) [2]))))
abbrev N__law_kinds : List Str := [Str.ofString "e", Str.ofString "flags", Str.ofString "k"]
theorem rn__law_kinds {a0 : D} : rho0 N__law_kinds [a0] = [some a0, none, none] := rfl
theorem sc__law_kinds : FnScope N__law_kinds [Str.ofString "e"] (defScope s__law_kinds) := ⟨rfl, rfl, rfl, by decide +kernel, rfl, by decide +kernel, by decide +kernel⟩
def Φ__law_kinds (cx : Str → Addr) : List D → PM → Out D := Pd.run 1 N__law_kinds (g__law_kinds cx)
theorem ok__law_kinds {P : Program} {w : World} {K : PySem.W.Frag} {mg : Str → Option Value} {base : Heap} (F : FunM K mg "_law_kinds" s__law_kinds [Str.ofString "e"]) {cx : Str → Addr} (K_PaperProblem : mg "PaperProblem" = some (.ref (cx "PaperProblem"))) (V_PaperProblem : IsNm K cx [("ClaimError", false), ("SyntaxProblem", false), ("ProgramProblem", false), ("PaperProblem", true), ("EditProblem", false), ("Clash", false), ("NoVersion", false), ("JournalProblem", false), ("Full", false), ("NotMergeable", false), ("NotEdited", false)] (.ref (cx "PaperProblem"))) (K_ProgramProblem : mg "ProgramProblem" = some (.ref (cx "ProgramProblem"))) (V_ProgramProblem : IsNm K cx [("ClaimError", false), ("SyntaxProblem", false), ("ProgramProblem", true), ("PaperProblem", false), ("EditProblem", false), ("Clash", false), ("NoVersion", false), ("JournalProblem", false), ("Full", false), ("NotMergeable", false), ("NotEdited", false)] (.ref (cx "ProgramProblem"))) (K_SyntaxProblem : mg "SyntaxProblem" = some (.ref (cx "SyntaxProblem"))) (V_SyntaxProblem : IsNm K cx [("ClaimError", false), ("SyntaxProblem", true), ("ProgramProblem", false), ("PaperProblem", false), ("EditProblem", false), ("Clash", false), ("NoVersion", false), ("JournalProblem", false), ("Full", false), ("NotMergeable", false), ("NotEdited", false)] (.ref (cx "SyntaxProblem"))) (K_NoVersion : mg "NoVersion" = some (.ref (cx "NoVersion"))) (V_NoVersion : IsNm K cx [("ClaimError", false), ("SyntaxProblem", false), ("ProgramProblem", false), ("PaperProblem", false), ("EditProblem", false), ("Clash", false), ("NoVersion", true), ("JournalProblem", false), ("Full", false), ("NotMergeable", false), ("NotEdited", false)] (.ref (cx "NoVersion"))) (K_Clash : mg "Clash" = some (.ref (cx "Clash"))) (V_Clash : IsNm K cx [("ClaimError", false), ("SyntaxProblem", false), ("ProgramProblem", false), ("PaperProblem", false), ("EditProblem", false), ("Clash", true), ("NoVersion", false), ("JournalProblem", false), ("Full", false), ("NotMergeable", false), ("NotEdited", false)] (.ref (cx "Clash"))) (K_EditProblem : mg "EditProblem" = some (.ref (cx "EditProblem"))) (V_EditProblem : IsNm K cx [("ClaimError", false), ("SyntaxProblem", false), ("ProgramProblem", false), ("PaperProblem", false), ("EditProblem", true), ("Clash", false), ("NoVersion", false), ("JournalProblem", false), ("Full", false), ("NotMergeable", false), ("NotEdited", false)] (.ref (cx "EditProblem"))) (K_NotEdited : mg "NotEdited" = some (.ref (cx "NotEdited"))) (V_NotEdited : IsNm K cx [("ClaimError", false), ("SyntaxProblem", false), ("ProgramProblem", false), ("PaperProblem", false), ("EditProblem", false), ("Clash", false), ("NoVersion", false), ("JournalProblem", false), ("Full", false), ("NotMergeable", false), ("NotEdited", true)] (.ref (cx "NotEdited"))) (K_NotMergeable : mg "NotMergeable" = some (.ref (cx "NotMergeable"))) (V_NotMergeable : IsNm K cx [("ClaimError", false), ("SyntaxProblem", false), ("ProgramProblem", false), ("PaperProblem", false), ("EditProblem", false), ("Clash", false), ("NoVersion", false), ("JournalProblem", false), ("Full", false), ("NotMergeable", true), ("NotEdited", false)] (.ref (cx "NotMergeable"))) (K_Full : mg "Full" = some (.ref (cx "Full"))) (V_Full : IsNm K cx [("ClaimError", false), ("SyntaxProblem", false), ("ProgramProblem", false), ("PaperProblem", false), ("EditProblem", false), ("Clash", false), ("NoVersion", false), ("JournalProblem", false), ("Full", true), ("NotMergeable", false), ("NotEdited", false)] (.ref (cx "Full"))) (K_JournalProblem : mg "JournalProblem" = some (.ref (cx "JournalProblem"))) (V_JournalProblem : IsNm K cx [("ClaimError", false), ("SyntaxProblem", false), ("ProgramProblem", false), ("PaperProblem", false), ("EditProblem", false), ("Clash", false), ("NoVersion", false), ("JournalProblem", true), ("Full", false), ("NotMergeable", false), ("NotEdited", false)] (.ref (cx "JournalProblem"))) (m_isinstance : mg "isinstance" = none) (m_range : mg "range" = none) :
 Callee P w K mg base "_law_kinds" 1 (Pd.run 1 N__law_kinds (g__law_kinds cx)) := by
 refine callee_run F sc__law_kinds rfl fun f cdv A outer s H E hr => ?_
 have nd := sc__law_kinds.nd
 exact pdb_cons (pds_set 1 (pd_lst (pda_cons (pd_isV V_SyntaxProblem rfl m_isinstance (pd_var 0) (pe_own (by rfl) K_SyntaxProblem) (told_ref (cx "SyntaxProblem"))) (pda_cons (pd_isV V_ProgramProblem rfl m_isinstance (pd_var 0) (pe_own (by rfl) K_ProgramProblem) (told_ref (cx "ProgramProblem"))) (pda_cons (pd_isV V_PaperProblem rfl m_isinstance (pd_var 0) (pe_own (by rfl) K_PaperProblem) (told_ref (cx "PaperProblem"))) (pda_nil))))) nd)
  (pdb_cons (pds_set 1 (pd_op o_add (pd_var 1) (pd_lst (pda_cons (pd_isV V_EditProblem rfl m_isinstance (pd_var 0) (pe_own (by rfl) K_EditProblem) (told_ref (cx "EditProblem"))) (pda_cons (pd_isV V_Clash rfl m_isinstance (pd_var 0) (pe_own (by rfl) K_Clash) (told_ref (cx "Clash"))) (pda_cons (pd_isV V_NoVersion rfl m_isinstance (pd_var 0) (pe_own (by rfl) K_NoVersion) (told_ref (cx "NoVersion"))) (pda_nil)))))) nd)
  (pdb_cons (pds_set 1 (pd_op o_add (pd_var 1) (pd_lst (pda_cons (pd_isV V_JournalProblem rfl m_isinstance (pd_var 0) (pe_own (by rfl) K_JournalProblem) (told_ref (cx "JournalProblem"))) (pda_cons (pd_isV V_Full rfl m_isinstance (pd_var 0) (pe_own (by rfl) K_Full) (told_ref (cx "Full"))) (pda_cons (pd_isV V_NotMergeable rfl m_isinstance (pd_var 0) (pe_own (by rfl) K_NotMergeable) (told_ref (cx "NotMergeable"))) (pda_cons (pd_isV V_NotEdited rfl m_isinstance (pd_var 0) (pe_own (by rfl) K_NotEdited) (told_ref (cx "NotEdited"))) (pda_nil))))))) nd)
  (pdb_one (pds_ret (pd_lcIf (own := [((Str.ofString "k"), 2)]) rfl nd (pdi_rng1 rfl m_range (pda_cons (pd_int) (pda_nil))) (blkOk_by (N := N__law_kinds) (sc := defScope s__law_kinds) (by decide +kernel)) (by decide) (fun _ _ _ _ _ => pg_name (i := 2) nd rfl (Or.inl rfl)) (fun _ _ _ _ _ => pdt_val (pd_ix (pd_var 1) (pd_var 2))) (fun _ _ _ _ _ => pd_var 2))))))
abbrev s_law : Stmt := topS 15
def lb_law_1 (cx : Str → Addr) (Φ__law_next : List D → PM → Out D) (Φ__law_kinds : List D → PM → Out D) : FS :=
 sIf (pOr (pTest (pOp gNeQ (pCall Φ__law_kinds (aCons (pOp gIx (pVar 5) (pVar 6)) (aNil))) (pLst (aCons (pVar 6) (aNil))))) (pOr (pNot (pTest (pIsV cx [("ClaimError", true), ("SyntaxProblem", true), ("ProgramProblem", true), ("PaperProblem", true), ("EditProblem", true), ("Clash", true), ("NoVersion", true), ("JournalProblem", true), ("Full", true), ("NotMergeable", true), ("NotEdited", true)] (pOp gIx (pVar 5) (pVar 6))))) (pNot (pTest (pIsV cx [("ClaimError", true), ("SyntaxProblem", true), ("ProgramProblem", true), ("PaperProblem", true), ("EditProblem", true), ("Clash", true), ("NoVersion", true), ("JournalProblem", true), ("Full", true), ("NotMergeable", true), ("NotEdited", true)] (pOp gIx (pVar 5) (pVar 6))))))) (sRet (pC (.bl false))) (sNext)
def g_law (cx : Str → Addr) (Φ__law_next : List D → PM → Out D) (Φ__law_kinds : List D → PM → Out D) : FS :=
 sSeq (sAsg (pNew (aCons (pC (.int 0)) (aCons (pC (.int 0)) (aCons (pC (.int 1)) (aCons (pC (.int 0)) (aNil)))))) (fName 1))
 (sSeq (sAsg (pOp gIx (pLst (aCons (pC (.str (Str.ofString "main"))) (aCons (pC (.str (Str.ofString "f"))) (aCons (pC (.str (Str.ofString ""))) (aCons (pC (.str (Str.ofString "size"))) (aCons (pC (.str (Str.ofString "place"))) (aCons (pC (.str (Str.ofString "x"))) (aNil)))))))) (pCall Φ__law_next (aCons (pVar 1) (aCons (pVar 0) (aCons (pC (.int 6)) (aNil)))))) (fName 2))
 (sSeq (sAsg (pOp gAdd (pC (.int 1)) (pCall Φ__law_next (aCons (pVar 1) (aCons (pVar 0) (aCons (pC (.int 900)) (aNil)))))) (fName 3))
 (sSeq (sAsg (pOp gAdd (pC (.int 1)) (pCall Φ__law_next (aCons (pVar 1) (aCons (pVar 0) (aCons (pC (.int 90)) (aNil)))))) (fName 4))
 (sSeq (sAsg (pLst (aCons (pMkV (cx "SyntaxProblem") "SyntaxProblem" [(Str.ofString "column"), (Str.ofString "line")] (aCons (pVar 3) (aCons (pVar 4) (aNil)))) (aCons (pMkV (cx "ProgramProblem") "ProgramProblem" [(Str.ofString "reason"), (Str.ofString "where")] (aCons (pVar 2) (aCons (pC (.str (Str.ofString "unknown"))) (aNil)))) (aCons (pMkV (cx "PaperProblem") "PaperProblem" [(Str.ofString "line")] (aCons (pVar 3) (aNil))) (aCons (pMkV (cx "EditProblem") "EditProblem" [(Str.ofString "reason")] (aCons (pVar 2) (aNil))) (aCons (pMkV (cx "Clash") "Clash" [(Str.ofString "reason")] (aCons (pVar 2) (aNil))) (aNil))))))) (fName 5))
 (sSeq (sAsg (pOp gAdd (pVar 5) (pLst (aCons (pMkV (cx "NoVersion") "NoVersion" [(Str.ofString "version")] (aCons (pVar 4) (aNil))) (aCons (pMkV (cx "JournalProblem") "JournalProblem" [(Str.ofString "position")] (aCons (pVar 3) (aNil))) (aCons (pMkV0 (cx "Full") "Full") (aCons (pMkV0 (cx "NotMergeable") "NotMergeable") (aCons (pMkV0 (cx "NotEdited") "NotEdited") (aNil)))))))) (fName 5))
 (sSeq (sFor (pRng1 (aCons (pC (.int 10)) (aNil))) (fName 6) (lb_law_1 cx Φ__law_next Φ__law_kinds))
 (sSeq (sIf (pOr (pTest (pOp gNeQ (pTup (aCons (pFldV (cx "SyntaxProblem") (Str.ofString "line") (pOp gIx (pVar 5) (pC (.int 0)))) (aCons (pFldV (cx "SyntaxProblem") (Str.ofString "column") (pOp gIx (pVar 5) (pC (.int 0)))) (aNil)))) (pTup (aCons (pVar 3) (aCons (pVar 4) (aNil)))))) (pTest (pOp gNeQ (pTup (aCons (pFldV (cx "ProgramProblem") (Str.ofString "where") (pOp gIx (pVar 5) (pC (.int 1)))) (aCons (pFldV (cx "ProgramProblem") (Str.ofString "reason") (pOp gIx (pVar 5) (pC (.int 1)))) (aNil)))) (pTup (aCons (pVar 2) (aCons (pC (.str (Str.ofString "unknown"))) (aNil))))))) (sRet (pC (.bl false))) (sNext))
 (sSeq (sIf (pTest (pOp gNeQ (pTup (aCons (pFldV (cx "PaperProblem") (Str.ofString "line") (pOp gIx (pVar 5) (pC (.int 2)))) (aCons (pFldV (cx "EditProblem") (Str.ofString "reason") (pOp gIx (pVar 5) (pC (.int 3)))) (aCons (pFldV (cx "Clash") (Str.ofString "reason") (pOp gIx (pVar 5) (pC (.int 4)))) (aNil))))) (pTup (aCons (pVar 3) (aCons (pVar 2) (aCons (pVar 2) (aNil))))))) (sRet (pC (.bl false))) (sNext))
 (sRet (pAndV (pOp gEqQ (pTup (aCons (pFldV (cx "NoVersion") (Str.ofString "version") (pOp gIx (pVar 5) (pC (.int 5)))) (aCons (pFldV (cx "JournalProblem") (Str.ofString "position") (pOp gIx (pVar 5) (pC (.int 6)))) (aNil)))) (pTup (aCons (pVar 4) (aCons (pVar 3) (aNil))))) (pOp gEqQ (pCall Φ__law_kinds (aCons (pMkV0 (cx "ClaimError") "ClaimError") (aNil))) (pLst (aNil)))))))))))))
abbrev N_law : List Str := [Str.ofString "script", Str.ofString "state", Str.ofString "word", Str.ofString "one", Str.ofString "two", Str.ofString "made", Str.ofString "k"]
theorem sc_law : FnScope N_law [Str.ofString "script"] (defScope s_law) := ⟨rfl, rfl, rfl, by decide +kernel, rfl, by decide +kernel, by decide +kernel⟩
def Φ_law (cx : Str → Addr) : List D → PM → Out D := Pd.run 1 N_law (g_law cx Φ__law_next (Φ__law_kinds cx))
theorem ok_law {P : Program} {w : World} {K : PySem.W.Frag} {mg : Str → Option Value} {base : Heap} {f : Addr} {fd : FuncData} (F : Fun K "law" "law" s_law f fd) {cx : Str → Addr} {Φ__law_next : List D → PM → Out D} (C__law_next : Callee P w K mg base "_law_next" 1 Φ__law_next) {Φ__law_kinds : List D → PM → Out D} (C__law_kinds : Callee P w K mg base "_law_kinds" 1 Φ__law_kinds) (R_Clash : ErrN P w K mg base "Clash" 1 (cx "Clash") [(Str.ofString "reason")]) (R_EditProblem : ErrN P w K mg base "EditProblem" 1 (cx "EditProblem") [(Str.ofString "reason")]) (R_PaperProblem : ErrN P w K mg base "PaperProblem" 1 (cx "PaperProblem") [(Str.ofString "line")]) (R_ProgramProblem : ErrN P w K mg base "ProgramProblem" 1 (cx "ProgramProblem") [(Str.ofString "reason"), (Str.ofString "where")]) (R_SyntaxProblem : ErrN P w K mg base "SyntaxProblem" 1 (cx "SyntaxProblem") [(Str.ofString "column"), (Str.ofString "line")]) (Z_NotEdited : Oex0 K (cx "NotEdited")) (K_NotEdited : mg "NotEdited" = some (.ref (cx "NotEdited"))) (Z_NotMergeable : Oex0 K (cx "NotMergeable")) (K_NotMergeable : mg "NotMergeable" = some (.ref (cx "NotMergeable"))) (Z_Full : Oex0 K (cx "Full")) (K_Full : mg "Full" = some (.ref (cx "Full"))) (R_JournalProblem : ErrN P w K mg base "JournalProblem" 1 (cx "JournalProblem") [(Str.ofString "position")]) (R_NoVersion : ErrN P w K mg base "NoVersion" 1 (cx "NoVersion") [(Str.ofString "version")]) (K_ClaimError : mg "ClaimError" = some (.ref (cx "ClaimError"))) (V_ClaimError : IsNm K cx [("ClaimError", true), ("SyntaxProblem", true), ("ProgramProblem", true), ("PaperProblem", true), ("EditProblem", true), ("Clash", true), ("NoVersion", true), ("JournalProblem", true), ("Full", true), ("NotMergeable", true), ("NotEdited", true)] (.ref (cx "ClaimError"))) (V_ValueError : IsNm K cx [("ClaimError", true), ("SyntaxProblem", true), ("ProgramProblem", true), ("PaperProblem", true), ("EditProblem", true), ("Clash", true), ("NoVersion", true), ("JournalProblem", true), ("Full", true), ("NotMergeable", true), ("NotEdited", true)] (.type "ValueError")) (XF_SyntaxProblem : XfC K (cx "SyntaxProblem")) (XN_SyntaxProblem_column : PySem.W.findIn K (.ref (cx "SyntaxProblem")) (Str.ofString "column") = some none) (XN_SyntaxProblem_line : PySem.W.findIn K (.ref (cx "SyntaxProblem")) (Str.ofString "line") = some none) (XF_ProgramProblem : XfC K (cx "ProgramProblem")) (XN_ProgramProblem_reason : PySem.W.findIn K (.ref (cx "ProgramProblem")) (Str.ofString "reason") = some none) (XN_ProgramProblem_where : PySem.W.findIn K (.ref (cx "ProgramProblem")) (Str.ofString "where") = some none) (XF_Clash : XfC K (cx "Clash")) (XN_Clash_reason : PySem.W.findIn K (.ref (cx "Clash")) (Str.ofString "reason") = some none) (XF_EditProblem : XfC K (cx "EditProblem")) (XN_EditProblem_reason : PySem.W.findIn K (.ref (cx "EditProblem")) (Str.ofString "reason") = some none) (XF_PaperProblem : XfC K (cx "PaperProblem")) (XN_PaperProblem_line : PySem.W.findIn K (.ref (cx "PaperProblem")) (Str.ofString "line") = some none) (XF_JournalProblem : XfC K (cx "JournalProblem")) (XN_JournalProblem_position : PySem.W.findIn K (.ref (cx "JournalProblem")) (Str.ofString "position") = some none) (XF_NoVersion : XfC K (cx "NoVersion")) (XN_NoVersion_version : PySem.W.findIn K (.ref (cx "NoVersion")) (Str.ofString "version") = some none) (Z_ClaimError : Oex0 K (cx "ClaimError")) (m_range : mg "range" = none) (m_isinstance : mg "isinstance" = none) (m_ValueError : mg "ValueError" = none) :
 FnOk P w K mg base CX0 3 f fd ["script"] (spP K (Pd.run 1 N_law (g_law cx Φ__law_next Φ__law_kinds))) := by
 refine law_run F sc_law rfl fun f cdv A outer s H E hr => ?_
 have nd := sc_law.nd
 exact pdb_cons (pds_set 1 (pd_new (pda_cons (pd_int) (pda_cons (pd_int) (pda_cons (pd_int) (pda_cons (pd_int) (pda_nil)))))) nd)
  (pdb_cons (pds_set 2 (pd_ix (pd_lst (pda_cons (pd_str) (pda_cons (pd_str) (pda_cons (pd_str) (pda_cons (pd_str) (pda_cons (pd_str) (pda_cons (pd_str) (pda_nil)))))))) (pd_callC C__law_next (hr.mono (by decide)) rfl (pda_cons (pd_var 1) (pda_cons (pd_var 0) (pda_cons (pd_int) (pda_nil)))))) nd)
  (pdb_cons (pds_set 3 (pd_op o_add (pd_int) (pd_callC C__law_next (hr.mono (by decide)) rfl (pda_cons (pd_var 1) (pda_cons (pd_var 0) (pda_cons (pd_int) (pda_nil)))))) nd)
  (pdb_cons (pds_set 4 (pd_op o_add (pd_int) (pd_callC C__law_next (hr.mono (by decide)) rfl (pda_cons (pd_var 1) (pda_cons (pd_var 0) (pda_cons (pd_int) (pda_nil)))))) nd)
  (pdb_cons (pds_set 5 (pd_lst (pda_cons (pd_mkV R_SyntaxProblem (hr.mono (by decide)) rfl (pda_cons (pd_var 3) (pda_cons (pd_var 4) (pda_nil)))) (pda_cons (pd_mkV R_ProgramProblem (hr.mono (by decide)) rfl (pda_cons (pd_var 2) (pda_cons (pd_str) (pda_nil)))) (pda_cons (pd_mkV R_PaperProblem (hr.mono (by decide)) rfl (pda_cons (pd_var 3) (pda_nil))) (pda_cons (pd_mkV R_EditProblem (hr.mono (by decide)) rfl (pda_cons (pd_var 2) (pda_nil))) (pda_cons (pd_mkV R_Clash (hr.mono (by decide)) rfl (pda_cons (pd_var 2) (pda_nil))) (pda_nil))))))) nd)
  (pdb_cons (pds_set 5 (pd_op o_add (pd_var 5) (pd_lst (pda_cons (pd_mkV R_NoVersion (hr.mono (by decide)) rfl (pda_cons (pd_var 4) (pda_nil))) (pda_cons (pd_mkV R_JournalProblem (hr.mono (by decide)) rfl (pda_cons (pd_var 3) (pda_nil))) (pda_cons (pd_mkV0 Z_Full rfl K_Full) (pda_cons (pd_mkV0 Z_NotMergeable rfl K_NotMergeable) (pda_cons (pd_mkV0 Z_NotEdited rfl K_NotEdited) (pda_nil)))))))) nd)
  (pdb_cons (pds_for PassesOwn.never rfl (pdi_rng1 rfl m_range (pda_cons (pd_int) (pda_nil))) (pdg_name (i := 6) nd) (pdb_one (pds_if (pdt_w (pdw_or (pdt_cmp (o_neQ hr.units) (pd_callC C__law_kinds (hr.mono (by decide)) rfl (pda_cons (pd_ix (pd_var 5) (pd_var 6)) (pda_nil))) (pd_lst (pda_cons (pd_var 6) (pda_nil))) (nomark _)) (pdw_or (pdt_not (pdt_val (pd_isV V_ClaimError rfl m_isinstance (pd_ix (pd_var 5) (pd_var 6)) (pe_own (by rfl) K_ClaimError) (told_ref (cx "ClaimError"))))) (pdw_or1 (pdt_not (pdt_val (pd_isV V_ValueError rfl m_isinstance (pd_ix (pd_var 5) (pd_var 6)) (pe_bty (T := "ValueError") (by rfl) m_ValueError (by rfl)) (told_ty "ValueError")))))))) (pdb_one (pds_ret (pd_bl))) (pdb_nil))))
  (pdb_cons (pds_if (pdt_w (pdw_or (pdt_cmp (o_neQ hr.units) (pd_tup (pda_cons (pd_fldV XF_SyntaxProblem XN_SyntaxProblem_line (pd_ix (pd_var 5) (pd_int))) (pda_cons (pd_fldV XF_SyntaxProblem XN_SyntaxProblem_column (pd_ix (pd_var 5) (pd_int))) (pda_nil)))) (pd_tup (pda_cons (pd_var 3) (pda_cons (pd_var 4) (pda_nil)))) (nomark _)) (pdw_or1 (pdt_cmp (o_neQ hr.units) (pd_tup (pda_cons (pd_fldV XF_ProgramProblem XN_ProgramProblem_where (pd_ix (pd_var 5) (pd_int))) (pda_cons (pd_fldV XF_ProgramProblem XN_ProgramProblem_reason (pd_ix (pd_var 5) (pd_int))) (pda_nil)))) (pd_tup (pda_cons (pd_var 2) (pda_cons (pd_str) (pda_nil)))) (nomark _))))) (pdb_one (pds_ret (pd_bl))) (pdb_nil))
  (pdb_cons (pds_if (pdt_cmp (o_neQ hr.units) (pd_tup (pda_cons (pd_fldV XF_PaperProblem XN_PaperProblem_line (pd_ix (pd_var 5) (pd_int))) (pda_cons (pd_fldV XF_EditProblem XN_EditProblem_reason (pd_ix (pd_var 5) (pd_int))) (pda_cons (pd_fldV XF_Clash XN_Clash_reason (pd_ix (pd_var 5) (pd_int))) (pda_nil))))) (pd_tup (pda_cons (pd_var 3) (pda_cons (pd_var 2) (pda_cons (pd_var 2) (pda_nil))))) (nomark _)) (pdb_one (pds_ret (pd_bl))) (pdb_nil))
  (pdb_one (pds_ret (pd_and (pd_cmp (o_eqQ hr.units) (pd_tup (pda_cons (pd_fldV XF_NoVersion XN_NoVersion_version (pd_ix (pd_var 5) (pd_int))) (pda_cons (pd_fldV XF_JournalProblem XN_JournalProblem_position (pd_ix (pd_var 5) (pd_int))) (pda_nil)))) (pd_tup (pda_cons (pd_var 4) (pda_cons (pd_var 3) (pda_nil)))) (nomark _)) (pd_one (pd_cmp (o_eqQ hr.units) (pd_callC C__law_kinds (hr.mono (by decide)) rfl (pda_cons (pd_mkV0 Z_ClaimError rfl K_ClaimError) (pda_nil))) (pd_lst (pda_nil)) (nomark _))))))))))))))
abbrev i_SyntaxProblem : Stmt := (clsBody (topS 2)).getD 0 (.Pass ⟨0, 0, 0, 0⟩)
abbrev NI_SyntaxProblem : List Str := [(Str.ofString "self"), (Str.ofString "line"), (Str.ofString "column"), (Str.ofString "__class__")]
theorem err_SyntaxProblem {P : Program} {w : World} {K : PySem.W.Frag} {mg : Str → Option Value} {base : Heap} {C : Addr} (F : Hh.InitF P K mg "SyntaxProblem" "SyntaxProblem.__init__" i_SyntaxProblem C) (f1 : PySem.W.findIn K (.ref C) (Str.ofString "line") = some none) (f2 : PySem.W.findIn K (.ref C) (Str.ofString "column") = some none) :
 ErrN P w K mg base "SyntaxProblem" 1 C [(Str.ofString "column"), (Str.ofString "line")] := by
 obtain ⟨fI, cda, cc, kV, doc, pm, ct, an, SF, hq, hf, ht⟩ := F.ex
 have hm := F.sup
 have hb : ∀ us : List Value, us.length = 3 → bindArgs (PySem.W.fnX "__init__" "SyntaxProblem.__init__" (defArgs i_SyntaxProblem) (defBody i_SyntaxProblem) (defScope i_SyntaxProblem) [("__class__", cc)] .none kV doc pm an (.ref cda) ct) ⟨us, []⟩ = pure ([(Str.ofString "self"), (Str.ofString "line"), (Str.ofString "column")].zip us) := fun us hl => match us, hl with | [_, _, _], _ => rfl
 refine ⟨fI, _, [(Str.ofString "self"), (Str.ofString "line"), (Str.ofString "column")], SF.ex, hf, ht, ?_, ?_, Binds.all hb, F.glob⟩
 · refine init_ok (N := NI_SyntaxProblem) (ps := [(Str.ofString "self"), (Str.ofString "line"), (Str.ofString "column")]) (slf := "self") (p0 := sb_p0 (defBody i_SyntaxProblem)) (p1 := sb_p1 (defBody i_SyntaxProblem)) (apos := sb_apos (defBody i_SyntaxProblem)) (pos := sb_pos (defBody i_SyntaxProblem)) (spos := sb_spos (defBody i_SyntaxProblem)) (e := sb_e (defBody i_SyntaxProblem)) (es := sb_es (defBody i_SyntaxProblem)) (rest := sb_rest (defBody i_SyntaxProblem)) (params := defArgs i_SyntaxProblem) (scope := defScope i_SyntaxProblem) (name := "__init__") (dV := .none) (kV := kV) (doc := doc) (pm := pm) (ct := ct) (an := an) (D := C) (cda := cda) (cc := cc) SF hq ⟨rfl, rfl, rfl, by decide +kernel, rfl, by decide +kernel, by decide +kernel, by decide +kernel, by decide +kernel⟩ rfl rfl rfl hm ?_ (fun A outer s H E Q s1 h => ks_wpAt_MethodCall h) (fun L => rfl) (fun L => rfl) (fun L => ⟨rfl, rfl⟩) (fun A outer s H E => ?_)
   · rintro vs H Q E ⟨a, ws, rfl, hl, _⟩
     rw [List.length_cons, hl]
     rfl
   · refine ⟨_, _, pa_cons (pe_joined (.cons pe_str (.cons (pe_fmt (pv 1)) (.cons pe_str (.cons (pe_fmt (pv 2)) (.nil)))))) pa_nil, pss_cons (ps_ost (pv 0) (pv 1)) (pss_one (ps_ost (pv 0) (pv 2))), ?_⟩
     rintro vs H Q E ⟨a, ws, rfl, hl, hok, hH, hq⟩
     match ws, hl, hok, hq with
     | [v1, v2], _, hok, hq =>
      have o1 := hok v1 (by simp)
      have o2 := hok v2 (by simp)
      refine ⟨a, rfl, hH, js_ok _ _ _ _ _ ?_ (by show 0 + 11000 * 4 ≤ 16777216; decide) fun out => ⟨by show 1 ≤ 1000; decide, hH, ?_⟩⟩
      · intro t ht
        simp only [List.mem_cons, List.not_mem_nil, or_false] at ht
        rcases ht with rfl | rfl | rfl | rfl
        · exact fmt_str (by decide +kernel) _
        · exact fmt_var rfl o1
        · exact fmt_str (by decide +kernel) _
        · exact fmt_var rfl o2
      · refine ⟨v1, rfl, .ref a, rfl, a, C, rfl, SF.ex, f1, .inl ⟨hH, fun dx hdx hne => ?_⟩⟩
        have ea : upd (upd H dx (exd dx [((Str.ofString "line"), v1)])) a (exo a C (some dx)) a = some (exo a C (some dx)) := upd_same
        have ed : upd (upd H dx (exd dx [((Str.ofString "line"), v1)])) a (exo a C (some dx)) dx = some (exd dx [((Str.ofString "line"), v1)]) := by rw [upd_ne hne]; exact upd_same
        refine ⟨v2, rfl, .ref a, rfl, a, C, rfl, SF.ex, f2, .inr ⟨dx, [((Str.ofString "line"), v1)], ea, ed, by show 1 ≤ 900; decide, ?_⟩⟩
        refine hq dx _ hdx hne ?_ upd_same fun b h1 h2 => ?_
        · rw [upd_ne (Ne.symm hne)]
          exact ea
        · rw [upd_ne h2, upd_ne h1, upd_ne h2]
 · refine init_okH (N := NI_SyntaxProblem) (ps := [(Str.ofString "self"), (Str.ofString "line"), (Str.ofString "column")]) (slf := "self") (p0 := sb_p0 (defBody i_SyntaxProblem)) (p1 := sb_p1 (defBody i_SyntaxProblem)) (apos := sb_apos (defBody i_SyntaxProblem)) (pos := sb_pos (defBody i_SyntaxProblem)) (spos := sb_spos (defBody i_SyntaxProblem)) (e := sb_e (defBody i_SyntaxProblem)) (es := sb_es (defBody i_SyntaxProblem)) (rest := sb_rest (defBody i_SyntaxProblem)) (params := defArgs i_SyntaxProblem) (scope := defScope i_SyntaxProblem) (name := "__init__") (dV := .none) (kV := kV) (doc := doc) (pm := pm) (ct := ct) (an := an) (D := C) (cda := cda) (cc := cc) SF hq ⟨rfl, rfl, rfl, by decide +kernel, rfl, by decide +kernel, by decide +kernel, by decide +kernel, by decide +kernel⟩ rfl rfl rfl hm ?_ (fun A outer s H E p Q s1 h => ks_wpAt_MethodCall h) (fun L => rfl) (fun L => rfl) (fun L => ⟨rfl, rfl⟩) (fun A outer s H E p => ?_)
   · rintro vs H Q E ⟨a, ws, rfl, hl, _⟩
     rw [List.length_cons, hl]
     rfl
   · refine ⟨_, _, pa_cons (pe_joined (.cons pe_str (.cons (pe_fmt (pv 1)) (.cons pe_str (.cons (pe_fmt (pv 2)) (.nil)))))) pa_nil, pss_cons (ps_ost (pv 0) (pv 1)) (pss_one (ps_ost (pv 0) (pv 2))), ?_⟩
     rintro vs H Q E ⟨a, ws, rfl, hl, hok, hH, hq⟩
     match ws, hl, hok, hq with
     | [v1, v2], _, hok, hq =>
      have o1 := hok v1 (by simp)
      have o2 := hok v2 (by simp)
      refine ⟨a, rfl, hH, js_ok _ _ _ _ _ ?_ (by show 0 + 11000 * 4 ≤ 16777216; decide) fun out => ⟨by show 1 ≤ 1000; decide, hH, ?_⟩⟩
      · intro t ht
        simp only [List.mem_cons, List.not_mem_nil, or_false] at ht
        rcases ht with rfl | rfl | rfl | rfl
        · exact fmt_str (by decide +kernel) _
        · exact fmt_var rfl o1
        · exact fmt_str (by decide +kernel) _
        · exact fmt_var rfl o2
      · refine ⟨v1, rfl, .ref a, rfl, a, C, rfl, SF.ex, f1, .inl ⟨hH, fun dx hdx hne => ?_⟩⟩
        have ea : upd (upd H dx (exd dx [((Str.ofString "line"), v1)])) a (exo a C (some dx)) a = some (exo a C (some dx)) := upd_same
        have ed : upd (upd H dx (exd dx [((Str.ofString "line"), v1)])) a (exo a C (some dx)) dx = some (exd dx [((Str.ofString "line"), v1)]) := by rw [upd_ne hne]; exact upd_same
        refine ⟨v2, rfl, .ref a, rfl, a, C, rfl, SF.ex, f2, .inr ⟨dx, [((Str.ofString "line"), v1)], ea, ed, by show 1 ≤ 900; decide, ?_⟩⟩
        refine hq dx _ hdx hne ?_ upd_same fun b h1 h2 => ?_
        · rw [upd_ne (Ne.symm hne)]
          exact ea
        · rw [upd_ne h2, upd_ne h1, upd_ne h2]
abbrev i_ProgramProblem : Stmt := (clsBody (topS 3)).getD 0 (.Pass ⟨0, 0, 0, 0⟩)
abbrev NI_ProgramProblem : List Str := [(Str.ofString "self"), (Str.ofString "where"), (Str.ofString "reason"), (Str.ofString "__class__")]
theorem err_ProgramProblem {P : Program} {w : World} {K : PySem.W.Frag} {mg : Str → Option Value} {base : Heap} {C : Addr} (F : Hh.InitF P K mg "ProgramProblem" "ProgramProblem.__init__" i_ProgramProblem C) (f1 : PySem.W.findIn K (.ref C) (Str.ofString "where") = some none) (f2 : PySem.W.findIn K (.ref C) (Str.ofString "reason") = some none) :
 ErrN P w K mg base "ProgramProblem" 1 C [(Str.ofString "reason"), (Str.ofString "where")] := by
 obtain ⟨fI, cda, cc, kV, doc, pm, ct, an, SF, hq, hf, ht⟩ := F.ex
 have hm := F.sup
 have hb : ∀ us : List Value, us.length = 3 → bindArgs (PySem.W.fnX "__init__" "ProgramProblem.__init__" (defArgs i_ProgramProblem) (defBody i_ProgramProblem) (defScope i_ProgramProblem) [("__class__", cc)] .none kV doc pm an (.ref cda) ct) ⟨us, []⟩ = pure ([(Str.ofString "self"), (Str.ofString "where"), (Str.ofString "reason")].zip us) := fun us hl => match us, hl with | [_, _, _], _ => rfl
 refine ⟨fI, _, [(Str.ofString "self"), (Str.ofString "where"), (Str.ofString "reason")], SF.ex, hf, ht, ?_, ?_, Binds.all hb, F.glob⟩
 · refine init_ok (N := NI_ProgramProblem) (ps := [(Str.ofString "self"), (Str.ofString "where"), (Str.ofString "reason")]) (slf := "self") (p0 := sb_p0 (defBody i_ProgramProblem)) (p1 := sb_p1 (defBody i_ProgramProblem)) (apos := sb_apos (defBody i_ProgramProblem)) (pos := sb_pos (defBody i_ProgramProblem)) (spos := sb_spos (defBody i_ProgramProblem)) (e := sb_e (defBody i_ProgramProblem)) (es := sb_es (defBody i_ProgramProblem)) (rest := sb_rest (defBody i_ProgramProblem)) (params := defArgs i_ProgramProblem) (scope := defScope i_ProgramProblem) (name := "__init__") (dV := .none) (kV := kV) (doc := doc) (pm := pm) (ct := ct) (an := an) (D := C) (cda := cda) (cc := cc) SF hq ⟨rfl, rfl, rfl, by decide +kernel, rfl, by decide +kernel, by decide +kernel, by decide +kernel, by decide +kernel⟩ rfl rfl rfl hm ?_ (fun A outer s H E Q s1 h => ks_wpAt_MethodCall h) (fun L => rfl) (fun L => rfl) (fun L => ⟨rfl, rfl⟩) (fun A outer s H E => ?_)
   · rintro vs H Q E ⟨a, ws, rfl, hl, _⟩
     rw [List.length_cons, hl]
     rfl
   · refine ⟨_, _, pa_cons (pe_joined (.cons pe_str (.cons (pe_fmtR (pv 1)) (.cons pe_str (.cons (pe_fmt (pv 2)) (.nil)))))) pa_nil, pss_cons (ps_ost (pv 0) (pv 1)) (pss_one (ps_ost (pv 0) (pv 2))), ?_⟩
     rintro vs H Q E ⟨a, ws, rfl, hl, hok, hH, hq⟩
     match ws, hl, hok, hq with
     | [v1, v2], _, hok, hq =>
      have o1 := hok v1 (by simp)
      have o2 := hok v2 (by simp)
      refine ⟨a, rfl, hH, js_ok _ _ _ _ _ ?_ (by show 0 + 11000 * 4 ≤ 16777216; decide) fun out => ⟨by show 1 ≤ 1000; decide, hH, ?_⟩⟩
      · intro t ht
        simp only [List.mem_cons, List.not_mem_nil, or_false] at ht
        rcases ht with rfl | rfl | rfl | rfl
        · exact fmt_str (by decide +kernel) _
        · exact fmt_varR rfl o1
        · exact fmt_str (by decide +kernel) _
        · exact fmt_var rfl o2
      · refine ⟨v1, rfl, .ref a, rfl, a, C, rfl, SF.ex, f1, .inl ⟨hH, fun dx hdx hne => ?_⟩⟩
        have ea : upd (upd H dx (exd dx [((Str.ofString "where"), v1)])) a (exo a C (some dx)) a = some (exo a C (some dx)) := upd_same
        have ed : upd (upd H dx (exd dx [((Str.ofString "where"), v1)])) a (exo a C (some dx)) dx = some (exd dx [((Str.ofString "where"), v1)]) := by rw [upd_ne hne]; exact upd_same
        refine ⟨v2, rfl, .ref a, rfl, a, C, rfl, SF.ex, f2, .inr ⟨dx, [((Str.ofString "where"), v1)], ea, ed, by show 1 ≤ 900; decide, ?_⟩⟩
        refine hq dx _ hdx hne ?_ upd_same fun b h1 h2 => ?_
        · rw [upd_ne (Ne.symm hne)]
          exact ea
        · rw [upd_ne h2, upd_ne h1, upd_ne h2]
 · refine init_okH (N := NI_ProgramProblem) (ps := [(Str.ofString "self"), (Str.ofString "where"), (Str.ofString "reason")]) (slf := "self") (p0 := sb_p0 (defBody i_ProgramProblem)) (p1 := sb_p1 (defBody i_ProgramProblem)) (apos := sb_apos (defBody i_ProgramProblem)) (pos := sb_pos (defBody i_ProgramProblem)) (spos := sb_spos (defBody i_ProgramProblem)) (e := sb_e (defBody i_ProgramProblem)) (es := sb_es (defBody i_ProgramProblem)) (rest := sb_rest (defBody i_ProgramProblem)) (params := defArgs i_ProgramProblem) (scope := defScope i_ProgramProblem) (name := "__init__") (dV := .none) (kV := kV) (doc := doc) (pm := pm) (ct := ct) (an := an) (D := C) (cda := cda) (cc := cc) SF hq ⟨rfl, rfl, rfl, by decide +kernel, rfl, by decide +kernel, by decide +kernel, by decide +kernel, by decide +kernel⟩ rfl rfl rfl hm ?_ (fun A outer s H E p Q s1 h => ks_wpAt_MethodCall h) (fun L => rfl) (fun L => rfl) (fun L => ⟨rfl, rfl⟩) (fun A outer s H E p => ?_)
   · rintro vs H Q E ⟨a, ws, rfl, hl, _⟩
     rw [List.length_cons, hl]
     rfl
   · refine ⟨_, _, pa_cons (pe_joined (.cons pe_str (.cons (pe_fmtR (pv 1)) (.cons pe_str (.cons (pe_fmt (pv 2)) (.nil)))))) pa_nil, pss_cons (ps_ost (pv 0) (pv 1)) (pss_one (ps_ost (pv 0) (pv 2))), ?_⟩
     rintro vs H Q E ⟨a, ws, rfl, hl, hok, hH, hq⟩
     match ws, hl, hok, hq with
     | [v1, v2], _, hok, hq =>
      have o1 := hok v1 (by simp)
      have o2 := hok v2 (by simp)
      refine ⟨a, rfl, hH, js_ok _ _ _ _ _ ?_ (by show 0 + 11000 * 4 ≤ 16777216; decide) fun out => ⟨by show 1 ≤ 1000; decide, hH, ?_⟩⟩
      · intro t ht
        simp only [List.mem_cons, List.not_mem_nil, or_false] at ht
        rcases ht with rfl | rfl | rfl | rfl
        · exact fmt_str (by decide +kernel) _
        · exact fmt_varR rfl o1
        · exact fmt_str (by decide +kernel) _
        · exact fmt_var rfl o2
      · refine ⟨v1, rfl, .ref a, rfl, a, C, rfl, SF.ex, f1, .inl ⟨hH, fun dx hdx hne => ?_⟩⟩
        have ea : upd (upd H dx (exd dx [((Str.ofString "where"), v1)])) a (exo a C (some dx)) a = some (exo a C (some dx)) := upd_same
        have ed : upd (upd H dx (exd dx [((Str.ofString "where"), v1)])) a (exo a C (some dx)) dx = some (exd dx [((Str.ofString "where"), v1)]) := by rw [upd_ne hne]; exact upd_same
        refine ⟨v2, rfl, .ref a, rfl, a, C, rfl, SF.ex, f2, .inr ⟨dx, [((Str.ofString "where"), v1)], ea, ed, by show 1 ≤ 900; decide, ?_⟩⟩
        refine hq dx _ hdx hne ?_ upd_same fun b h1 h2 => ?_
        · rw [upd_ne (Ne.symm hne)]
          exact ea
        · rw [upd_ne h2, upd_ne h1, upd_ne h2]
abbrev i_PaperProblem : Stmt := (clsBody (topS 4)).getD 0 (.Pass ⟨0, 0, 0, 0⟩)
abbrev NI_PaperProblem : List Str := [(Str.ofString "self"), (Str.ofString "line"), (Str.ofString "__class__")]
theorem err_PaperProblem {P : Program} {w : World} {K : PySem.W.Frag} {mg : Str → Option Value} {base : Heap} {C : Addr} (F : Hh.InitF P K mg "PaperProblem" "PaperProblem.__init__" i_PaperProblem C) (f1 : PySem.W.findIn K (.ref C) (Str.ofString "line") = some none) :
 ErrN P w K mg base "PaperProblem" 1 C [(Str.ofString "line")] := by
 obtain ⟨fI, cda, cc, kV, doc, pm, ct, an, SF, hq, hf, ht⟩ := F.ex
 have hm := F.sup
 have hb : ∀ us : List Value, us.length = 2 → bindArgs (PySem.W.fnX "__init__" "PaperProblem.__init__" (defArgs i_PaperProblem) (defBody i_PaperProblem) (defScope i_PaperProblem) [("__class__", cc)] .none kV doc pm an (.ref cda) ct) ⟨us, []⟩ = pure ([(Str.ofString "self"), (Str.ofString "line")].zip us) := fun us hl => match us, hl with | [_, _], _ => rfl
 refine ⟨fI, _, [(Str.ofString "self"), (Str.ofString "line")], SF.ex, hf, ht, ?_, ?_, Binds.all hb, F.glob⟩
 · refine init_ok (N := NI_PaperProblem) (ps := [(Str.ofString "self"), (Str.ofString "line")]) (slf := "self") (p0 := sb_p0 (defBody i_PaperProblem)) (p1 := sb_p1 (defBody i_PaperProblem)) (apos := sb_apos (defBody i_PaperProblem)) (pos := sb_pos (defBody i_PaperProblem)) (spos := sb_spos (defBody i_PaperProblem)) (e := sb_e (defBody i_PaperProblem)) (es := sb_es (defBody i_PaperProblem)) (rest := sb_rest (defBody i_PaperProblem)) (params := defArgs i_PaperProblem) (scope := defScope i_PaperProblem) (name := "__init__") (dV := .none) (kV := kV) (doc := doc) (pm := pm) (ct := ct) (an := an) (D := C) (cda := cda) (cc := cc) SF hq ⟨rfl, rfl, rfl, by decide +kernel, rfl, by decide +kernel, by decide +kernel, by decide +kernel, by decide +kernel⟩ rfl rfl rfl hm ?_ (fun A outer s H E Q s1 h => ks_wpAt_MethodCall h) (fun L => rfl) (fun L => rfl) (fun L => ⟨rfl, rfl⟩) (fun A outer s H E => ?_)
   · rintro vs H Q E ⟨a, ws, rfl, hl, _⟩
     rw [List.length_cons, hl]
     rfl
   · refine ⟨_, _, pa_cons (pe_joined (.cons pe_str (.cons (pe_fmt (pv 1)) (.nil)))) pa_nil, pss_one (ps_ost (pv 0) (pv 1)), ?_⟩
     rintro vs H Q E ⟨a, ws, rfl, hl, hok, hH, hq⟩
     match ws, hl, hok, hq with
     | [v1], _, hok, hq =>
      have o1 := hok v1 (by simp)
      refine ⟨a, rfl, hH, js_ok _ _ _ _ _ ?_ (by show 0 + 11000 * 2 ≤ 16777216; decide) fun out => ⟨by show 1 ≤ 1000; decide, hH, ?_⟩⟩
      · intro t ht
        simp only [List.mem_cons, List.not_mem_nil, or_false] at ht
        rcases ht with rfl | rfl
        · exact fmt_str (by decide +kernel) _
        · exact fmt_var rfl o1
      · refine ⟨v1, rfl, .ref a, rfl, a, C, rfl, SF.ex, f1, .inl ⟨hH, fun dx hdx hne => ?_⟩⟩
        refine hq dx _ hdx hne upd_same ?_ fun b h1 h2 => ?_
        · rw [upd_ne hne]; exact upd_same
        · rw [upd_ne h1, upd_ne h2]
 · refine init_okH (N := NI_PaperProblem) (ps := [(Str.ofString "self"), (Str.ofString "line")]) (slf := "self") (p0 := sb_p0 (defBody i_PaperProblem)) (p1 := sb_p1 (defBody i_PaperProblem)) (apos := sb_apos (defBody i_PaperProblem)) (pos := sb_pos (defBody i_PaperProblem)) (spos := sb_spos (defBody i_PaperProblem)) (e := sb_e (defBody i_PaperProblem)) (es := sb_es (defBody i_PaperProblem)) (rest := sb_rest (defBody i_PaperProblem)) (params := defArgs i_PaperProblem) (scope := defScope i_PaperProblem) (name := "__init__") (dV := .none) (kV := kV) (doc := doc) (pm := pm) (ct := ct) (an := an) (D := C) (cda := cda) (cc := cc) SF hq ⟨rfl, rfl, rfl, by decide +kernel, rfl, by decide +kernel, by decide +kernel, by decide +kernel, by decide +kernel⟩ rfl rfl rfl hm ?_ (fun A outer s H E p Q s1 h => ks_wpAt_MethodCall h) (fun L => rfl) (fun L => rfl) (fun L => ⟨rfl, rfl⟩) (fun A outer s H E p => ?_)
   · rintro vs H Q E ⟨a, ws, rfl, hl, _⟩
     rw [List.length_cons, hl]
     rfl
   · refine ⟨_, _, pa_cons (pe_joined (.cons pe_str (.cons (pe_fmt (pv 1)) (.nil)))) pa_nil, pss_one (ps_ost (pv 0) (pv 1)), ?_⟩
     rintro vs H Q E ⟨a, ws, rfl, hl, hok, hH, hq⟩
     match ws, hl, hok, hq with
     | [v1], _, hok, hq =>
      have o1 := hok v1 (by simp)
      refine ⟨a, rfl, hH, js_ok _ _ _ _ _ ?_ (by show 0 + 11000 * 2 ≤ 16777216; decide) fun out => ⟨by show 1 ≤ 1000; decide, hH, ?_⟩⟩
      · intro t ht
        simp only [List.mem_cons, List.not_mem_nil, or_false] at ht
        rcases ht with rfl | rfl
        · exact fmt_str (by decide +kernel) _
        · exact fmt_var rfl o1
      · refine ⟨v1, rfl, .ref a, rfl, a, C, rfl, SF.ex, f1, .inl ⟨hH, fun dx hdx hne => ?_⟩⟩
        refine hq dx _ hdx hne upd_same ?_ fun b h1 h2 => ?_
        · rw [upd_ne hne]; exact upd_same
        · rw [upd_ne h1, upd_ne h2]
abbrev i_EditProblem : Stmt := (clsBody (topS 5)).getD 0 (.Pass ⟨0, 0, 0, 0⟩)
abbrev NI_EditProblem : List Str := [(Str.ofString "self"), (Str.ofString "reason"), (Str.ofString "__class__")]
theorem err_EditProblem {P : Program} {w : World} {K : PySem.W.Frag} {mg : Str → Option Value} {base : Heap} {C : Addr} (F : Hh.InitF P K mg "EditProblem" "EditProblem.__init__" i_EditProblem C) (f1 : PySem.W.findIn K (.ref C) (Str.ofString "reason") = some none) :
 ErrN P w K mg base "EditProblem" 1 C [(Str.ofString "reason")] := by
 obtain ⟨fI, cda, cc, kV, doc, pm, ct, an, SF, hq, hf, ht⟩ := F.ex
 have hm := F.sup
 have hb : ∀ us : List Value, us.length = 2 → bindArgs (PySem.W.fnX "__init__" "EditProblem.__init__" (defArgs i_EditProblem) (defBody i_EditProblem) (defScope i_EditProblem) [("__class__", cc)] .none kV doc pm an (.ref cda) ct) ⟨us, []⟩ = pure ([(Str.ofString "self"), (Str.ofString "reason")].zip us) := fun us hl => match us, hl with | [_, _], _ => rfl
 refine ⟨fI, _, [(Str.ofString "self"), (Str.ofString "reason")], SF.ex, hf, ht, ?_, ?_, Binds.all hb, F.glob⟩
 · refine init_ok (N := NI_EditProblem) (ps := [(Str.ofString "self"), (Str.ofString "reason")]) (slf := "self") (p0 := sb_p0 (defBody i_EditProblem)) (p1 := sb_p1 (defBody i_EditProblem)) (apos := sb_apos (defBody i_EditProblem)) (pos := sb_pos (defBody i_EditProblem)) (spos := sb_spos (defBody i_EditProblem)) (e := sb_e (defBody i_EditProblem)) (es := sb_es (defBody i_EditProblem)) (rest := sb_rest (defBody i_EditProblem)) (params := defArgs i_EditProblem) (scope := defScope i_EditProblem) (name := "__init__") (dV := .none) (kV := kV) (doc := doc) (pm := pm) (ct := ct) (an := an) (D := C) (cda := cda) (cc := cc) SF hq ⟨rfl, rfl, rfl, by decide +kernel, rfl, by decide +kernel, by decide +kernel, by decide +kernel, by decide +kernel⟩ rfl rfl rfl hm ?_ (fun A outer s H E Q s1 h => ks_wpAt_MethodCall h) (fun L => rfl) (fun L => rfl) (fun L => ⟨rfl, rfl⟩) (fun A outer s H E => ?_)
   · rintro vs H Q E ⟨a, ws, rfl, hl, _⟩
     rw [List.length_cons, hl]
     rfl
   · refine ⟨_, _, pa_cons (pe_joined (.cons pe_str (.cons (pe_fmt (pv 1)) (.nil)))) pa_nil, pss_one (ps_ost (pv 0) (pv 1)), ?_⟩
     rintro vs H Q E ⟨a, ws, rfl, hl, hok, hH, hq⟩
     match ws, hl, hok, hq with
     | [v1], _, hok, hq =>
      have o1 := hok v1 (by simp)
      refine ⟨a, rfl, hH, js_ok _ _ _ _ _ ?_ (by show 0 + 11000 * 2 ≤ 16777216; decide) fun out => ⟨by show 1 ≤ 1000; decide, hH, ?_⟩⟩
      · intro t ht
        simp only [List.mem_cons, List.not_mem_nil, or_false] at ht
        rcases ht with rfl | rfl
        · exact fmt_str (by decide +kernel) _
        · exact fmt_var rfl o1
      · refine ⟨v1, rfl, .ref a, rfl, a, C, rfl, SF.ex, f1, .inl ⟨hH, fun dx hdx hne => ?_⟩⟩
        refine hq dx _ hdx hne upd_same ?_ fun b h1 h2 => ?_
        · rw [upd_ne hne]; exact upd_same
        · rw [upd_ne h1, upd_ne h2]
 · refine init_okH (N := NI_EditProblem) (ps := [(Str.ofString "self"), (Str.ofString "reason")]) (slf := "self") (p0 := sb_p0 (defBody i_EditProblem)) (p1 := sb_p1 (defBody i_EditProblem)) (apos := sb_apos (defBody i_EditProblem)) (pos := sb_pos (defBody i_EditProblem)) (spos := sb_spos (defBody i_EditProblem)) (e := sb_e (defBody i_EditProblem)) (es := sb_es (defBody i_EditProblem)) (rest := sb_rest (defBody i_EditProblem)) (params := defArgs i_EditProblem) (scope := defScope i_EditProblem) (name := "__init__") (dV := .none) (kV := kV) (doc := doc) (pm := pm) (ct := ct) (an := an) (D := C) (cda := cda) (cc := cc) SF hq ⟨rfl, rfl, rfl, by decide +kernel, rfl, by decide +kernel, by decide +kernel, by decide +kernel, by decide +kernel⟩ rfl rfl rfl hm ?_ (fun A outer s H E p Q s1 h => ks_wpAt_MethodCall h) (fun L => rfl) (fun L => rfl) (fun L => ⟨rfl, rfl⟩) (fun A outer s H E p => ?_)
   · rintro vs H Q E ⟨a, ws, rfl, hl, _⟩
     rw [List.length_cons, hl]
     rfl
   · refine ⟨_, _, pa_cons (pe_joined (.cons pe_str (.cons (pe_fmt (pv 1)) (.nil)))) pa_nil, pss_one (ps_ost (pv 0) (pv 1)), ?_⟩
     rintro vs H Q E ⟨a, ws, rfl, hl, hok, hH, hq⟩
     match ws, hl, hok, hq with
     | [v1], _, hok, hq =>
      have o1 := hok v1 (by simp)
      refine ⟨a, rfl, hH, js_ok _ _ _ _ _ ?_ (by show 0 + 11000 * 2 ≤ 16777216; decide) fun out => ⟨by show 1 ≤ 1000; decide, hH, ?_⟩⟩
      · intro t ht
        simp only [List.mem_cons, List.not_mem_nil, or_false] at ht
        rcases ht with rfl | rfl
        · exact fmt_str (by decide +kernel) _
        · exact fmt_var rfl o1
      · refine ⟨v1, rfl, .ref a, rfl, a, C, rfl, SF.ex, f1, .inl ⟨hH, fun dx hdx hne => ?_⟩⟩
        refine hq dx _ hdx hne upd_same ?_ fun b h1 h2 => ?_
        · rw [upd_ne hne]; exact upd_same
        · rw [upd_ne h1, upd_ne h2]
abbrev i_Clash : Stmt := (clsBody (topS 6)).getD 0 (.Pass ⟨0, 0, 0, 0⟩)
abbrev NI_Clash : List Str := [(Str.ofString "self"), (Str.ofString "reason"), (Str.ofString "__class__")]
theorem err_Clash {P : Program} {w : World} {K : PySem.W.Frag} {mg : Str → Option Value} {base : Heap} {C : Addr} (F : Hh.InitF P K mg "Clash" "Clash.__init__" i_Clash C) (f1 : PySem.W.findIn K (.ref C) (Str.ofString "reason") = some none) :
 ErrN P w K mg base "Clash" 1 C [(Str.ofString "reason")] := by
 obtain ⟨fI, cda, cc, kV, doc, pm, ct, an, SF, hq, hf, ht⟩ := F.ex
 have hm := F.sup
 have hb : ∀ us : List Value, us.length = 2 → bindArgs (PySem.W.fnX "__init__" "Clash.__init__" (defArgs i_Clash) (defBody i_Clash) (defScope i_Clash) [("__class__", cc)] .none kV doc pm an (.ref cda) ct) ⟨us, []⟩ = pure ([(Str.ofString "self"), (Str.ofString "reason")].zip us) := fun us hl => match us, hl with | [_, _], _ => rfl
 refine ⟨fI, _, [(Str.ofString "self"), (Str.ofString "reason")], SF.ex, hf, ht, ?_, ?_, Binds.all hb, F.glob⟩
 · refine init_ok (N := NI_Clash) (ps := [(Str.ofString "self"), (Str.ofString "reason")]) (slf := "self") (p0 := sb_p0 (defBody i_Clash)) (p1 := sb_p1 (defBody i_Clash)) (apos := sb_apos (defBody i_Clash)) (pos := sb_pos (defBody i_Clash)) (spos := sb_spos (defBody i_Clash)) (e := sb_e (defBody i_Clash)) (es := sb_es (defBody i_Clash)) (rest := sb_rest (defBody i_Clash)) (params := defArgs i_Clash) (scope := defScope i_Clash) (name := "__init__") (dV := .none) (kV := kV) (doc := doc) (pm := pm) (ct := ct) (an := an) (D := C) (cda := cda) (cc := cc) SF hq ⟨rfl, rfl, rfl, by decide +kernel, rfl, by decide +kernel, by decide +kernel, by decide +kernel, by decide +kernel⟩ rfl rfl rfl hm ?_ (fun A outer s H E Q s1 h => ks_wpAt_MethodCall h) (fun L => rfl) (fun L => rfl) (fun L => ⟨rfl, rfl⟩) (fun A outer s H E => ?_)
   · rintro vs H Q E ⟨a, ws, rfl, hl, _⟩
     rw [List.length_cons, hl]
     rfl
   · refine ⟨_, _, pa_cons (pe_joined (.cons pe_str (.cons (pe_fmt (pv 1)) (.nil)))) pa_nil, pss_one (ps_ost (pv 0) (pv 1)), ?_⟩
     rintro vs H Q E ⟨a, ws, rfl, hl, hok, hH, hq⟩
     match ws, hl, hok, hq with
     | [v1], _, hok, hq =>
      have o1 := hok v1 (by simp)
      refine ⟨a, rfl, hH, js_ok _ _ _ _ _ ?_ (by show 0 + 11000 * 2 ≤ 16777216; decide) fun out => ⟨by show 1 ≤ 1000; decide, hH, ?_⟩⟩
      · intro t ht
        simp only [List.mem_cons, List.not_mem_nil, or_false] at ht
        rcases ht with rfl | rfl
        · exact fmt_str (by decide +kernel) _
        · exact fmt_var rfl o1
      · refine ⟨v1, rfl, .ref a, rfl, a, C, rfl, SF.ex, f1, .inl ⟨hH, fun dx hdx hne => ?_⟩⟩
        refine hq dx _ hdx hne upd_same ?_ fun b h1 h2 => ?_
        · rw [upd_ne hne]; exact upd_same
        · rw [upd_ne h1, upd_ne h2]
 · refine init_okH (N := NI_Clash) (ps := [(Str.ofString "self"), (Str.ofString "reason")]) (slf := "self") (p0 := sb_p0 (defBody i_Clash)) (p1 := sb_p1 (defBody i_Clash)) (apos := sb_apos (defBody i_Clash)) (pos := sb_pos (defBody i_Clash)) (spos := sb_spos (defBody i_Clash)) (e := sb_e (defBody i_Clash)) (es := sb_es (defBody i_Clash)) (rest := sb_rest (defBody i_Clash)) (params := defArgs i_Clash) (scope := defScope i_Clash) (name := "__init__") (dV := .none) (kV := kV) (doc := doc) (pm := pm) (ct := ct) (an := an) (D := C) (cda := cda) (cc := cc) SF hq ⟨rfl, rfl, rfl, by decide +kernel, rfl, by decide +kernel, by decide +kernel, by decide +kernel, by decide +kernel⟩ rfl rfl rfl hm ?_ (fun A outer s H E p Q s1 h => ks_wpAt_MethodCall h) (fun L => rfl) (fun L => rfl) (fun L => ⟨rfl, rfl⟩) (fun A outer s H E p => ?_)
   · rintro vs H Q E ⟨a, ws, rfl, hl, _⟩
     rw [List.length_cons, hl]
     rfl
   · refine ⟨_, _, pa_cons (pe_joined (.cons pe_str (.cons (pe_fmt (pv 1)) (.nil)))) pa_nil, pss_one (ps_ost (pv 0) (pv 1)), ?_⟩
     rintro vs H Q E ⟨a, ws, rfl, hl, hok, hH, hq⟩
     match ws, hl, hok, hq with
     | [v1], _, hok, hq =>
      have o1 := hok v1 (by simp)
      refine ⟨a, rfl, hH, js_ok _ _ _ _ _ ?_ (by show 0 + 11000 * 2 ≤ 16777216; decide) fun out => ⟨by show 1 ≤ 1000; decide, hH, ?_⟩⟩
      · intro t ht
        simp only [List.mem_cons, List.not_mem_nil, or_false] at ht
        rcases ht with rfl | rfl
        · exact fmt_str (by decide +kernel) _
        · exact fmt_var rfl o1
      · refine ⟨v1, rfl, .ref a, rfl, a, C, rfl, SF.ex, f1, .inl ⟨hH, fun dx hdx hne => ?_⟩⟩
        refine hq dx _ hdx hne upd_same ?_ fun b h1 h2 => ?_
        · rw [upd_ne hne]; exact upd_same
        · rw [upd_ne h1, upd_ne h2]
abbrev i_NoVersion : Stmt := (clsBody (topS 7)).getD 0 (.Pass ⟨0, 0, 0, 0⟩)
abbrev NI_NoVersion : List Str := [(Str.ofString "self"), (Str.ofString "version"), (Str.ofString "__class__")]
theorem err_NoVersion {P : Program} {w : World} {K : PySem.W.Frag} {mg : Str → Option Value} {base : Heap} {C : Addr} (F : Hh.InitF P K mg "NoVersion" "NoVersion.__init__" i_NoVersion C) (f1 : PySem.W.findIn K (.ref C) (Str.ofString "version") = some none) :
 ErrN P w K mg base "NoVersion" 1 C [(Str.ofString "version")] := by
 obtain ⟨fI, cda, cc, kV, doc, pm, ct, an, SF, hq, hf, ht⟩ := F.ex
 have hm := F.sup
 have hb : ∀ us : List Value, us.length = 2 → bindArgs (PySem.W.fnX "__init__" "NoVersion.__init__" (defArgs i_NoVersion) (defBody i_NoVersion) (defScope i_NoVersion) [("__class__", cc)] .none kV doc pm an (.ref cda) ct) ⟨us, []⟩ = pure ([(Str.ofString "self"), (Str.ofString "version")].zip us) := fun us hl => match us, hl with | [_, _], _ => rfl
 refine ⟨fI, _, [(Str.ofString "self"), (Str.ofString "version")], SF.ex, hf, ht, ?_, ?_, Binds.all hb, F.glob⟩
 · refine init_ok (N := NI_NoVersion) (ps := [(Str.ofString "self"), (Str.ofString "version")]) (slf := "self") (p0 := sb_p0 (defBody i_NoVersion)) (p1 := sb_p1 (defBody i_NoVersion)) (apos := sb_apos (defBody i_NoVersion)) (pos := sb_pos (defBody i_NoVersion)) (spos := sb_spos (defBody i_NoVersion)) (e := sb_e (defBody i_NoVersion)) (es := sb_es (defBody i_NoVersion)) (rest := sb_rest (defBody i_NoVersion)) (params := defArgs i_NoVersion) (scope := defScope i_NoVersion) (name := "__init__") (dV := .none) (kV := kV) (doc := doc) (pm := pm) (ct := ct) (an := an) (D := C) (cda := cda) (cc := cc) SF hq ⟨rfl, rfl, rfl, by decide +kernel, rfl, by decide +kernel, by decide +kernel, by decide +kernel, by decide +kernel⟩ rfl rfl rfl hm ?_ (fun A outer s H E Q s1 h => ks_wpAt_MethodCall h) (fun L => rfl) (fun L => rfl) (fun L => ⟨rfl, rfl⟩) (fun A outer s H E => ?_)
   · rintro vs H Q E ⟨a, ws, rfl, hl, _⟩
     rw [List.length_cons, hl]
     rfl
   · refine ⟨_, _, pa_cons (pe_joined (.cons pe_str (.cons (pe_fmt (pv 1)) (.nil)))) pa_nil, pss_one (ps_ost (pv 0) (pv 1)), ?_⟩
     rintro vs H Q E ⟨a, ws, rfl, hl, hok, hH, hq⟩
     match ws, hl, hok, hq with
     | [v1], _, hok, hq =>
      have o1 := hok v1 (by simp)
      refine ⟨a, rfl, hH, js_ok _ _ _ _ _ ?_ (by show 0 + 11000 * 2 ≤ 16777216; decide) fun out => ⟨by show 1 ≤ 1000; decide, hH, ?_⟩⟩
      · intro t ht
        simp only [List.mem_cons, List.not_mem_nil, or_false] at ht
        rcases ht with rfl | rfl
        · exact fmt_str (by decide +kernel) _
        · exact fmt_var rfl o1
      · refine ⟨v1, rfl, .ref a, rfl, a, C, rfl, SF.ex, f1, .inl ⟨hH, fun dx hdx hne => ?_⟩⟩
        refine hq dx _ hdx hne upd_same ?_ fun b h1 h2 => ?_
        · rw [upd_ne hne]; exact upd_same
        · rw [upd_ne h1, upd_ne h2]
 · refine init_okH (N := NI_NoVersion) (ps := [(Str.ofString "self"), (Str.ofString "version")]) (slf := "self") (p0 := sb_p0 (defBody i_NoVersion)) (p1 := sb_p1 (defBody i_NoVersion)) (apos := sb_apos (defBody i_NoVersion)) (pos := sb_pos (defBody i_NoVersion)) (spos := sb_spos (defBody i_NoVersion)) (e := sb_e (defBody i_NoVersion)) (es := sb_es (defBody i_NoVersion)) (rest := sb_rest (defBody i_NoVersion)) (params := defArgs i_NoVersion) (scope := defScope i_NoVersion) (name := "__init__") (dV := .none) (kV := kV) (doc := doc) (pm := pm) (ct := ct) (an := an) (D := C) (cda := cda) (cc := cc) SF hq ⟨rfl, rfl, rfl, by decide +kernel, rfl, by decide +kernel, by decide +kernel, by decide +kernel, by decide +kernel⟩ rfl rfl rfl hm ?_ (fun A outer s H E p Q s1 h => ks_wpAt_MethodCall h) (fun L => rfl) (fun L => rfl) (fun L => ⟨rfl, rfl⟩) (fun A outer s H E p => ?_)
   · rintro vs H Q E ⟨a, ws, rfl, hl, _⟩
     rw [List.length_cons, hl]
     rfl
   · refine ⟨_, _, pa_cons (pe_joined (.cons pe_str (.cons (pe_fmt (pv 1)) (.nil)))) pa_nil, pss_one (ps_ost (pv 0) (pv 1)), ?_⟩
     rintro vs H Q E ⟨a, ws, rfl, hl, hok, hH, hq⟩
     match ws, hl, hok, hq with
     | [v1], _, hok, hq =>
      have o1 := hok v1 (by simp)
      refine ⟨a, rfl, hH, js_ok _ _ _ _ _ ?_ (by show 0 + 11000 * 2 ≤ 16777216; decide) fun out => ⟨by show 1 ≤ 1000; decide, hH, ?_⟩⟩
      · intro t ht
        simp only [List.mem_cons, List.not_mem_nil, or_false] at ht
        rcases ht with rfl | rfl
        · exact fmt_str (by decide +kernel) _
        · exact fmt_var rfl o1
      · refine ⟨v1, rfl, .ref a, rfl, a, C, rfl, SF.ex, f1, .inl ⟨hH, fun dx hdx hne => ?_⟩⟩
        refine hq dx _ hdx hne upd_same ?_ fun b h1 h2 => ?_
        · rw [upd_ne hne]; exact upd_same
        · rw [upd_ne h1, upd_ne h2]
abbrev i_JournalProblem : Stmt := (clsBody (topS 8)).getD 0 (.Pass ⟨0, 0, 0, 0⟩)
abbrev NI_JournalProblem : List Str := [(Str.ofString "self"), (Str.ofString "position"), (Str.ofString "__class__")]
theorem err_JournalProblem {P : Program} {w : World} {K : PySem.W.Frag} {mg : Str → Option Value} {base : Heap} {C : Addr} (F : Hh.InitF P K mg "JournalProblem" "JournalProblem.__init__" i_JournalProblem C) (f1 : PySem.W.findIn K (.ref C) (Str.ofString "position") = some none) :
 ErrN P w K mg base "JournalProblem" 1 C [(Str.ofString "position")] := by
 obtain ⟨fI, cda, cc, kV, doc, pm, ct, an, SF, hq, hf, ht⟩ := F.ex
 have hm := F.sup
 have hb : ∀ us : List Value, us.length = 2 → bindArgs (PySem.W.fnX "__init__" "JournalProblem.__init__" (defArgs i_JournalProblem) (defBody i_JournalProblem) (defScope i_JournalProblem) [("__class__", cc)] .none kV doc pm an (.ref cda) ct) ⟨us, []⟩ = pure ([(Str.ofString "self"), (Str.ofString "position")].zip us) := fun us hl => match us, hl with | [_, _], _ => rfl
 refine ⟨fI, _, [(Str.ofString "self"), (Str.ofString "position")], SF.ex, hf, ht, ?_, ?_, Binds.all hb, F.glob⟩
 · refine init_ok (N := NI_JournalProblem) (ps := [(Str.ofString "self"), (Str.ofString "position")]) (slf := "self") (p0 := sb_p0 (defBody i_JournalProblem)) (p1 := sb_p1 (defBody i_JournalProblem)) (apos := sb_apos (defBody i_JournalProblem)) (pos := sb_pos (defBody i_JournalProblem)) (spos := sb_spos (defBody i_JournalProblem)) (e := sb_e (defBody i_JournalProblem)) (es := sb_es (defBody i_JournalProblem)) (rest := sb_rest (defBody i_JournalProblem)) (params := defArgs i_JournalProblem) (scope := defScope i_JournalProblem) (name := "__init__") (dV := .none) (kV := kV) (doc := doc) (pm := pm) (ct := ct) (an := an) (D := C) (cda := cda) (cc := cc) SF hq ⟨rfl, rfl, rfl, by decide +kernel, rfl, by decide +kernel, by decide +kernel, by decide +kernel, by decide +kernel⟩ rfl rfl rfl hm ?_ (fun A outer s H E Q s1 h => ks_wpAt_MethodCall h) (fun L => rfl) (fun L => rfl) (fun L => ⟨rfl, rfl⟩) (fun A outer s H E => ?_)
   · rintro vs H Q E ⟨a, ws, rfl, hl, _⟩
     rw [List.length_cons, hl]
     rfl
   · refine ⟨_, _, pa_cons (pe_joined (.cons pe_str (.cons (pe_fmt (pv 1)) (.cons pe_str (.nil))))) pa_nil, pss_one (ps_ost (pv 0) (pv 1)), ?_⟩
     rintro vs H Q E ⟨a, ws, rfl, hl, hok, hH, hq⟩
     match ws, hl, hok, hq with
     | [v1], _, hok, hq =>
      have o1 := hok v1 (by simp)
      refine ⟨a, rfl, hH, js_ok _ _ _ _ _ ?_ (by show 0 + 11000 * 3 ≤ 16777216; decide) fun out => ⟨by show 1 ≤ 1000; decide, hH, ?_⟩⟩
      · intro t ht
        simp only [List.mem_cons, List.not_mem_nil, or_false] at ht
        rcases ht with rfl | rfl | rfl
        · exact fmt_str (by decide +kernel) _
        · exact fmt_var rfl o1
        · exact fmt_str (by decide +kernel) _
      · refine ⟨v1, rfl, .ref a, rfl, a, C, rfl, SF.ex, f1, .inl ⟨hH, fun dx hdx hne => ?_⟩⟩
        refine hq dx _ hdx hne upd_same ?_ fun b h1 h2 => ?_
        · rw [upd_ne hne]; exact upd_same
        · rw [upd_ne h1, upd_ne h2]
 · refine init_okH (N := NI_JournalProblem) (ps := [(Str.ofString "self"), (Str.ofString "position")]) (slf := "self") (p0 := sb_p0 (defBody i_JournalProblem)) (p1 := sb_p1 (defBody i_JournalProblem)) (apos := sb_apos (defBody i_JournalProblem)) (pos := sb_pos (defBody i_JournalProblem)) (spos := sb_spos (defBody i_JournalProblem)) (e := sb_e (defBody i_JournalProblem)) (es := sb_es (defBody i_JournalProblem)) (rest := sb_rest (defBody i_JournalProblem)) (params := defArgs i_JournalProblem) (scope := defScope i_JournalProblem) (name := "__init__") (dV := .none) (kV := kV) (doc := doc) (pm := pm) (ct := ct) (an := an) (D := C) (cda := cda) (cc := cc) SF hq ⟨rfl, rfl, rfl, by decide +kernel, rfl, by decide +kernel, by decide +kernel, by decide +kernel, by decide +kernel⟩ rfl rfl rfl hm ?_ (fun A outer s H E p Q s1 h => ks_wpAt_MethodCall h) (fun L => rfl) (fun L => rfl) (fun L => ⟨rfl, rfl⟩) (fun A outer s H E p => ?_)
   · rintro vs H Q E ⟨a, ws, rfl, hl, _⟩
     rw [List.length_cons, hl]
     rfl
   · refine ⟨_, _, pa_cons (pe_joined (.cons pe_str (.cons (pe_fmt (pv 1)) (.cons pe_str (.nil))))) pa_nil, pss_one (ps_ost (pv 0) (pv 1)), ?_⟩
     rintro vs H Q E ⟨a, ws, rfl, hl, hok, hH, hq⟩
     match ws, hl, hok, hq with
     | [v1], _, hok, hq =>
      have o1 := hok v1 (by simp)
      refine ⟨a, rfl, hH, js_ok _ _ _ _ _ ?_ (by show 0 + 11000 * 3 ≤ 16777216; decide) fun out => ⟨by show 1 ≤ 1000; decide, hH, ?_⟩⟩
      · intro t ht
        simp only [List.mem_cons, List.not_mem_nil, or_false] at ht
        rcases ht with rfl | rfl | rfl
        · exact fmt_str (by decide +kernel) _
        · exact fmt_var rfl o1
        · exact fmt_str (by decide +kernel) _
      · refine ⟨v1, rfl, .ref a, rfl, a, C, rfl, SF.ex, f1, .inl ⟨hH, fun dx hdx hne => ?_⟩⟩
        refine hq dx _ hdx hne upd_same ?_ fun b h1 h2 => ?_
        · rw [upd_ne hne]; exact upd_same
        · rw [upd_ne h1, upd_ne h2]
theorem all_hd {l : PySem.W.OpenLaw} {w : World} {K : PySem.W.Frag} {mg : Str → Option Value} {fa : Addr} {cx : Str → Addr} (hfa : mg "law" = some (.ref fa))
 (F__law_next : FunM K mg "_law_next" s__law_next [Str.ofString "state", Str.ofString "script", Str.ofString "many"])
 (F__law_kinds : FunM K mg "_law_kinds" s__law_kinds [Str.ofString "e"])
 (F_law : FunM K mg "law" s_law [Str.ofString "script"])
 (m_int : mg "int" = none)
 (m_len : mg "len" = none)
 (m_abs : mg "abs" = none)
 (m_isinstance : mg "isinstance" = none)
 (m_range : mg "range" = none)
 (m_ValueError : mg "ValueError" = none)
 (K_PaperProblem : mg "PaperProblem" = some (.ref (cx "PaperProblem")))
 (V_PaperProblem : IsNm K cx [("ClaimError", false), ("SyntaxProblem", false), ("ProgramProblem", false), ("PaperProblem", true), ("EditProblem", false), ("Clash", false), ("NoVersion", false), ("JournalProblem", false), ("Full", false), ("NotMergeable", false), ("NotEdited", false)] (.ref (cx "PaperProblem")))
 (K_ProgramProblem : mg "ProgramProblem" = some (.ref (cx "ProgramProblem")))
 (V_ProgramProblem : IsNm K cx [("ClaimError", false), ("SyntaxProblem", false), ("ProgramProblem", true), ("PaperProblem", false), ("EditProblem", false), ("Clash", false), ("NoVersion", false), ("JournalProblem", false), ("Full", false), ("NotMergeable", false), ("NotEdited", false)] (.ref (cx "ProgramProblem")))
 (K_SyntaxProblem : mg "SyntaxProblem" = some (.ref (cx "SyntaxProblem")))
 (V_SyntaxProblem : IsNm K cx [("ClaimError", false), ("SyntaxProblem", true), ("ProgramProblem", false), ("PaperProblem", false), ("EditProblem", false), ("Clash", false), ("NoVersion", false), ("JournalProblem", false), ("Full", false), ("NotMergeable", false), ("NotEdited", false)] (.ref (cx "SyntaxProblem")))
 (K_NoVersion : mg "NoVersion" = some (.ref (cx "NoVersion")))
 (V_NoVersion : IsNm K cx [("ClaimError", false), ("SyntaxProblem", false), ("ProgramProblem", false), ("PaperProblem", false), ("EditProblem", false), ("Clash", false), ("NoVersion", true), ("JournalProblem", false), ("Full", false), ("NotMergeable", false), ("NotEdited", false)] (.ref (cx "NoVersion")))
 (K_Clash : mg "Clash" = some (.ref (cx "Clash")))
 (V_Clash : IsNm K cx [("ClaimError", false), ("SyntaxProblem", false), ("ProgramProblem", false), ("PaperProblem", false), ("EditProblem", false), ("Clash", true), ("NoVersion", false), ("JournalProblem", false), ("Full", false), ("NotMergeable", false), ("NotEdited", false)] (.ref (cx "Clash")))
 (K_EditProblem : mg "EditProblem" = some (.ref (cx "EditProblem")))
 (V_EditProblem : IsNm K cx [("ClaimError", false), ("SyntaxProblem", false), ("ProgramProblem", false), ("PaperProblem", false), ("EditProblem", true), ("Clash", false), ("NoVersion", false), ("JournalProblem", false), ("Full", false), ("NotMergeable", false), ("NotEdited", false)] (.ref (cx "EditProblem")))
 (K_NotEdited : mg "NotEdited" = some (.ref (cx "NotEdited")))
 (V_NotEdited : IsNm K cx [("ClaimError", false), ("SyntaxProblem", false), ("ProgramProblem", false), ("PaperProblem", false), ("EditProblem", false), ("Clash", false), ("NoVersion", false), ("JournalProblem", false), ("Full", false), ("NotMergeable", false), ("NotEdited", true)] (.ref (cx "NotEdited")))
 (K_NotMergeable : mg "NotMergeable" = some (.ref (cx "NotMergeable")))
 (V_NotMergeable : IsNm K cx [("ClaimError", false), ("SyntaxProblem", false), ("ProgramProblem", false), ("PaperProblem", false), ("EditProblem", false), ("Clash", false), ("NoVersion", false), ("JournalProblem", false), ("Full", false), ("NotMergeable", true), ("NotEdited", false)] (.ref (cx "NotMergeable")))
 (K_Full : mg "Full" = some (.ref (cx "Full")))
 (V_Full : IsNm K cx [("ClaimError", false), ("SyntaxProblem", false), ("ProgramProblem", false), ("PaperProblem", false), ("EditProblem", false), ("Clash", false), ("NoVersion", false), ("JournalProblem", false), ("Full", true), ("NotMergeable", false), ("NotEdited", false)] (.ref (cx "Full")))
 (K_JournalProblem : mg "JournalProblem" = some (.ref (cx "JournalProblem")))
 (V_JournalProblem : IsNm K cx [("ClaimError", false), ("SyntaxProblem", false), ("ProgramProblem", false), ("PaperProblem", false), ("EditProblem", false), ("Clash", false), ("NoVersion", false), ("JournalProblem", true), ("Full", false), ("NotMergeable", false), ("NotEdited", false)] (.ref (cx "JournalProblem")))
 (R0_Clash : ∀ base : Heap, ErrN l.prog w K mg base "Clash" 1 (cx "Clash") [(Str.ofString "reason")])
 (R0_EditProblem : ∀ base : Heap, ErrN l.prog w K mg base "EditProblem" 1 (cx "EditProblem") [(Str.ofString "reason")])
 (R0_PaperProblem : ∀ base : Heap, ErrN l.prog w K mg base "PaperProblem" 1 (cx "PaperProblem") [(Str.ofString "line")])
 (R0_ProgramProblem : ∀ base : Heap, ErrN l.prog w K mg base "ProgramProblem" 1 (cx "ProgramProblem") [(Str.ofString "reason"), (Str.ofString "where")])
 (R0_SyntaxProblem : ∀ base : Heap, ErrN l.prog w K mg base "SyntaxProblem" 1 (cx "SyntaxProblem") [(Str.ofString "column"), (Str.ofString "line")])
 (Z_NotEdited : Oex0 K (cx "NotEdited"))
 (Z_NotMergeable : Oex0 K (cx "NotMergeable"))
 (Z_Full : Oex0 K (cx "Full"))
 (R0_JournalProblem : ∀ base : Heap, ErrN l.prog w K mg base "JournalProblem" 1 (cx "JournalProblem") [(Str.ofString "position")])
 (R0_NoVersion : ∀ base : Heap, ErrN l.prog w K mg base "NoVersion" 1 (cx "NoVersion") [(Str.ofString "version")])
 (K_ClaimError : mg "ClaimError" = some (.ref (cx "ClaimError")))
 (V_ClaimError : IsNm K cx [("ClaimError", true), ("SyntaxProblem", true), ("ProgramProblem", true), ("PaperProblem", true), ("EditProblem", true), ("Clash", true), ("NoVersion", true), ("JournalProblem", true), ("Full", true), ("NotMergeable", true), ("NotEdited", true)] (.ref (cx "ClaimError")))
 (V_ValueError : IsNm K cx [("ClaimError", true), ("SyntaxProblem", true), ("ProgramProblem", true), ("PaperProblem", true), ("EditProblem", true), ("Clash", true), ("NoVersion", true), ("JournalProblem", true), ("Full", true), ("NotMergeable", true), ("NotEdited", true)] (.type "ValueError"))
 (XF_SyntaxProblem : XfC K (cx "SyntaxProblem"))
 (XN_SyntaxProblem_column : PySem.W.findIn K (.ref (cx "SyntaxProblem")) (Str.ofString "column") = some none)
 (XN_SyntaxProblem_line : PySem.W.findIn K (.ref (cx "SyntaxProblem")) (Str.ofString "line") = some none)
 (XF_ProgramProblem : XfC K (cx "ProgramProblem"))
 (XN_ProgramProblem_reason : PySem.W.findIn K (.ref (cx "ProgramProblem")) (Str.ofString "reason") = some none)
 (XN_ProgramProblem_where : PySem.W.findIn K (.ref (cx "ProgramProblem")) (Str.ofString "where") = some none)
 (XF_Clash : XfC K (cx "Clash"))
 (XN_Clash_reason : PySem.W.findIn K (.ref (cx "Clash")) (Str.ofString "reason") = some none)
 (XF_EditProblem : XfC K (cx "EditProblem"))
 (XN_EditProblem_reason : PySem.W.findIn K (.ref (cx "EditProblem")) (Str.ofString "reason") = some none)
 (XF_PaperProblem : XfC K (cx "PaperProblem"))
 (XN_PaperProblem_line : PySem.W.findIn K (.ref (cx "PaperProblem")) (Str.ofString "line") = some none)
 (XF_JournalProblem : XfC K (cx "JournalProblem"))
 (XN_JournalProblem_position : PySem.W.findIn K (.ref (cx "JournalProblem")) (Str.ofString "position") = some none)
 (XF_NoVersion : XfC K (cx "NoVersion"))
 (XN_NoVersion_version : PySem.W.findIn K (.ref (cx "NoVersion")) (Str.ofString "version") = some none)
 (Z_ClaimError : Oex0 K (cx "ClaimError"))
 : ∃ fd : FuncData, (∀ (s : Shared) (u : Value), BindsTo s fd ⟨[u], []⟩ [("script", u)]) ∧ ∀ base : Heap, K.In base → base.Ns mainGlobals mg → FnOk l.prog w K mg base CX0 3 fa fd ["script"] (spP K (Φ_law cx)) := by
 refine law_of (F := F_law) hfa fun fd hF base KB GB => ?_
 have R_Clash := R0_Clash base
 have R_EditProblem := R0_EditProblem base
 have R_PaperProblem := R0_PaperProblem base
 have R_ProgramProblem := R0_ProgramProblem base
 have R_SyntaxProblem := R0_SyntaxProblem base
 have R_JournalProblem := R0_JournalProblem base
 have R_NoVersion := R0_NoVersion base
 have C__law_next : Callee l.prog w K mg base "_law_next" 1 Φ__law_next := ok__law_next F__law_next m_int m_len m_abs
 have C__law_kinds : Callee l.prog w K mg base "_law_kinds" 1 (Φ__law_kinds cx) := ok__law_kinds F__law_kinds K_PaperProblem V_PaperProblem K_ProgramProblem V_ProgramProblem K_SyntaxProblem V_SyntaxProblem K_NoVersion V_NoVersion K_Clash V_Clash K_EditProblem V_EditProblem K_NotEdited V_NotEdited K_NotMergeable V_NotMergeable K_Full V_Full K_JournalProblem V_JournalProblem m_isinstance m_range
 exact ok_law hF C__law_next C__law_kinds R_Clash R_EditProblem R_PaperProblem R_ProgramProblem R_SyntaxProblem Z_NotEdited K_NotEdited Z_NotMergeable K_NotMergeable Z_Full K_Full R_JournalProblem R_NoVersion K_ClaimError V_ClaimError V_ValueError XF_SyntaxProblem XN_SyntaxProblem_column XN_SyntaxProblem_line XF_ProgramProblem XN_ProgramProblem_reason XN_ProgramProblem_where XF_Clash XN_Clash_reason XF_EditProblem XN_EditProblem_reason XF_PaperProblem XN_PaperProblem_line XF_JournalProblem XN_JournalProblem_position XF_NoVersion XN_NoVersion_version Z_ClaimError m_range m_isinstance m_ValueError
end
end G
namespace M
open PySem L2 Pd Pu G
section
open PySem L2 Pd Pu G
theorem next45 {ns : List Int} {many : Int} {m : MO} (hm : 0 < many ∧ many < 1073741824) (hs : Rst m) : ∃ (r : Int) (m' : MO), Φ__law_next [.adr 0, .rol (ns.map .int), .int many] [m] = .ok (.int r) [m'] ∧ 0 ≤ r ∧ r < many ∧ Rst m' := by
 have w : WfM [m] := by
  unfold WfM
  simp [hs.cl]
 exact next_ok (M := [m]) (i := 0) (N := N__law_next) rfl (ns := ns) w (by simp) hm hs
theorem word45 (r : Int) (h0 : 0 ≤ r) (h1 : r < 6) : ∃ w : Str, (∀ M : PM, gIx M (.lst [.str (Str.ofString "main"), .str (Str.ofString "f"), .str (Str.ofString ""), .str (Str.ofString "size"), .str (Str.ofString "place"), .str (Str.ofString "x")]) (.int r) = .ok (.str w) M) ∧ okD (.str w) = true ∧ PyData.strOk w = true := by
 have : r = 0 ∨ r = 1 ∨ r = 2 ∨ r = 3 ∨ r = 4 ∨ r = 5 := by omega
 rcases this with rfl | rfl | rfl | rfl | rfl | rfl
 · exact ⟨_, fun _ => rfl, by decide +kernel, by decide +kernel⟩
 · exact ⟨_, fun _ => rfl, by decide +kernel, by decide +kernel⟩
 · exact ⟨_, fun _ => rfl, by decide +kernel, by decide +kernel⟩
 · exact ⟨_, fun _ => rfl, by decide +kernel, by decide +kernel⟩
 · exact ⟨_, fun _ => rfl, by decide +kernel, by decide +kernel⟩
 · exact ⟨_, fun _ => rfl, by decide +kernel, by decide +kernel⟩
theorem w3 : okD (.str (Str.ofString "unknown")) = true := by decide +kernel
theorem add45 (M : PM) (i j : Int) : gAdd M (.int i) (.int j) = .ok (.int (i + j)) M := rfl
theorem addL45 (M : PM) (a b : List D) (h : a.length + b.length ≤ 16777216) : gAdd M (.lst a) (.lst b) = .ok (.lst (a ++ b)) M := by
 show (if a.length + b.length ≤ line then _ else _) = _
 rw [if_pos h]
abbrev Mm (cx : Str → Addr) (m : MO) (w : Str) (o t : Int) : PM := [m,
 MO.err (cx (Str.ofString "SyntaxProblem")) (Str.ofString "SyntaxProblem") [(Str.ofString "column", D.int t), (Str.ofString "line", D.int o)],
 MO.err (cx (Str.ofString "ProgramProblem")) (Str.ofString "ProgramProblem") [(Str.ofString "reason", D.str (Str.ofString "unknown")), (Str.ofString "where", D.str w)],
 MO.err (cx (Str.ofString "PaperProblem")) (Str.ofString "PaperProblem") [(Str.ofString "line", D.int o)],
 MO.err (cx (Str.ofString "EditProblem")) (Str.ofString "EditProblem") [(Str.ofString "reason", D.str w)],
 MO.err (cx (Str.ofString "Clash")) (Str.ofString "Clash") [(Str.ofString "reason", D.str w)],
 MO.err (cx (Str.ofString "NoVersion")) (Str.ofString "NoVersion") [(Str.ofString "version", D.int t)],
 MO.err (cx (Str.ofString "JournalProblem")) (Str.ofString "JournalProblem") [(Str.ofString "position", D.int o)],
 MO.err (cx (Str.ofString "Full")) (Str.ofString "Full") [],
 MO.err (cx (Str.ofString "NotMergeable")) (Str.ofString "NotMergeable") [],
 MO.err (cx (Str.ofString "NotEdited")) (Str.ofString "NotEdited") []]
theorem beq45 (a b : String) : (Str.ofString a == Str.ofString b) = decide (a = b) := by
 by_cases h : a = b
 · subst h; simp
 · have : ¬ Str.ofString a = Str.ofString b := by rw [ofString_eq]; exact h
   simp [h, this]
theorem wfm (cx : Str → Addr) {m : MO} (s : Rst m) (w : Str) (o t : Int) : WfM (Mm cx m w o t) := by
 unfold WfM Mm
 rw [List.all_cons, s.cl]
 rfl
theorem kinds_0 (cx : Str → Addr) {m : MO} (s : Rst m) (w : Str) (o t : Int) : Φ__law_kinds cx [.adr 1] (Mm cx m w o t) = .ok (.lst [.int 0]) (Mm cx m w o t) := by
 refine run_pure0 rfl (wfm cx s w o t) ?_ rfl
 unfold g__law_kinds
 rw [rn__law_kinds]
 simp only [sSeq, sAsg, aCons, aNil, pC, fName, Out.bind_ok, List.length_cons, List.length_nil, Nat.reduceAdd, Nat.reduceLeDiff, if_true, List.nil_append, List.set_cons_zero, List.set_cons_succ, pOp, pLst, pVar, List.getElem?_cons_zero, List.getElem?_cons_succ, line, pIsV, errOf, List.lookup, beq45, String.reduceEq, decide_true, decide_false, addL45, List.cons_append]
 have e : pLc (pRng1 (aCons (pC (D.int 10)) aNil)) (fName 2) (pTest (pOp gIx (pVar 1) (pVar 2))) (pVar 2) [2] [some (D.adr 1), some (D.lst [D.bl true, D.bl false, D.bl false, D.bl false, D.bl false, D.bl false, D.bl false, D.bl false, D.bl false, D.bl false]), none] (Mm cx m w o t) = .ok (.lst [.int 0]) (Mm cx m w o t) := by
  show (if (Mm cx m w o t ++ [MO.lst [.int 0]]).length = 11 + 1 ∧ clL 11 [.int 0] = true ∧ ((Mm cx m w o t ++ [MO.lst [.int 0]]).take 11).all (clMO 11) = true then Out.ok (D.lst [.int 0]) ((Mm cx m w o t ++ [MO.lst [.int 0]]).take 11) else Out.bad) = _
  exact if_pos ⟨rfl, rfl, wfm cx s w o t⟩
 unfold sRet
 rw [e]
 rfl
theorem kinds_1 (cx : Str → Addr) {m : MO} (s : Rst m) (w : Str) (o t : Int) : Φ__law_kinds cx [.adr 2] (Mm cx m w o t) = .ok (.lst [.int 1]) (Mm cx m w o t) := by
 refine run_pure0 rfl (wfm cx s w o t) ?_ rfl
 unfold g__law_kinds
 rw [rn__law_kinds]
 simp only [sSeq, sAsg, aCons, aNil, pC, fName, Out.bind_ok, List.length_cons, List.length_nil, Nat.reduceAdd, Nat.reduceLeDiff, if_true, List.nil_append, List.set_cons_zero, List.set_cons_succ, pOp, pLst, pVar, List.getElem?_cons_zero, List.getElem?_cons_succ, line, pIsV, errOf, List.lookup, beq45, String.reduceEq, decide_true, decide_false, addL45, List.cons_append]
 have e : pLc (pRng1 (aCons (pC (D.int 10)) aNil)) (fName 2) (pTest (pOp gIx (pVar 1) (pVar 2))) (pVar 2) [2] [some (D.adr 2), some (D.lst [D.bl false, D.bl true, D.bl false, D.bl false, D.bl false, D.bl false, D.bl false, D.bl false, D.bl false, D.bl false]), none] (Mm cx m w o t) = .ok (.lst [.int 1]) (Mm cx m w o t) := by
  show (if (Mm cx m w o t ++ [MO.lst [.int 1]]).length = 11 + 1 ∧ clL 11 [.int 1] = true ∧ ((Mm cx m w o t ++ [MO.lst [.int 1]]).take 11).all (clMO 11) = true then Out.ok (D.lst [.int 1]) ((Mm cx m w o t ++ [MO.lst [.int 1]]).take 11) else Out.bad) = _
  exact if_pos ⟨rfl, rfl, wfm cx s w o t⟩
 unfold sRet
 rw [e]
 rfl
theorem kinds_2 (cx : Str → Addr) {m : MO} (s : Rst m) (w : Str) (o t : Int) : Φ__law_kinds cx [.adr 3] (Mm cx m w o t) = .ok (.lst [.int 2]) (Mm cx m w o t) := by
 refine run_pure0 rfl (wfm cx s w o t) ?_ rfl
 unfold g__law_kinds
 rw [rn__law_kinds]
 simp only [sSeq, sAsg, aCons, aNil, pC, fName, Out.bind_ok, List.length_cons, List.length_nil, Nat.reduceAdd, Nat.reduceLeDiff, if_true, List.nil_append, List.set_cons_zero, List.set_cons_succ, pOp, pLst, pVar, List.getElem?_cons_zero, List.getElem?_cons_succ, line, pIsV, errOf, List.lookup, beq45, String.reduceEq, decide_true, decide_false, addL45, List.cons_append]
 have e : pLc (pRng1 (aCons (pC (D.int 10)) aNil)) (fName 2) (pTest (pOp gIx (pVar 1) (pVar 2))) (pVar 2) [2] [some (D.adr 3), some (D.lst [D.bl false, D.bl false, D.bl true, D.bl false, D.bl false, D.bl false, D.bl false, D.bl false, D.bl false, D.bl false]), none] (Mm cx m w o t) = .ok (.lst [.int 2]) (Mm cx m w o t) := by
  show (if (Mm cx m w o t ++ [MO.lst [.int 2]]).length = 11 + 1 ∧ clL 11 [.int 2] = true ∧ ((Mm cx m w o t ++ [MO.lst [.int 2]]).take 11).all (clMO 11) = true then Out.ok (D.lst [.int 2]) ((Mm cx m w o t ++ [MO.lst [.int 2]]).take 11) else Out.bad) = _
  exact if_pos ⟨rfl, rfl, wfm cx s w o t⟩
 unfold sRet
 rw [e]
 rfl
theorem kinds_3 (cx : Str → Addr) {m : MO} (s : Rst m) (w : Str) (o t : Int) : Φ__law_kinds cx [.adr 4] (Mm cx m w o t) = .ok (.lst [.int 3]) (Mm cx m w o t) := by
 refine run_pure0 rfl (wfm cx s w o t) ?_ rfl
 unfold g__law_kinds
 rw [rn__law_kinds]
 simp only [sSeq, sAsg, aCons, aNil, pC, fName, Out.bind_ok, List.length_cons, List.length_nil, Nat.reduceAdd, Nat.reduceLeDiff, if_true, List.nil_append, List.set_cons_zero, List.set_cons_succ, pOp, pLst, pVar, List.getElem?_cons_zero, List.getElem?_cons_succ, line, pIsV, errOf, List.lookup, beq45, String.reduceEq, decide_true, decide_false, addL45, List.cons_append]
 have e : pLc (pRng1 (aCons (pC (D.int 10)) aNil)) (fName 2) (pTest (pOp gIx (pVar 1) (pVar 2))) (pVar 2) [2] [some (D.adr 4), some (D.lst [D.bl false, D.bl false, D.bl false, D.bl true, D.bl false, D.bl false, D.bl false, D.bl false, D.bl false, D.bl false]), none] (Mm cx m w o t) = .ok (.lst [.int 3]) (Mm cx m w o t) := by
  show (if (Mm cx m w o t ++ [MO.lst [.int 3]]).length = 11 + 1 ∧ clL 11 [.int 3] = true ∧ ((Mm cx m w o t ++ [MO.lst [.int 3]]).take 11).all (clMO 11) = true then Out.ok (D.lst [.int 3]) ((Mm cx m w o t ++ [MO.lst [.int 3]]).take 11) else Out.bad) = _
  exact if_pos ⟨rfl, rfl, wfm cx s w o t⟩
 unfold sRet
 rw [e]
 rfl
theorem kinds_4 (cx : Str → Addr) {m : MO} (s : Rst m) (w : Str) (o t : Int) : Φ__law_kinds cx [.adr 5] (Mm cx m w o t) = .ok (.lst [.int 4]) (Mm cx m w o t) := by
 refine run_pure0 rfl (wfm cx s w o t) ?_ rfl
 unfold g__law_kinds
 rw [rn__law_kinds]
 simp only [sSeq, sAsg, aCons, aNil, pC, fName, Out.bind_ok, List.length_cons, List.length_nil, Nat.reduceAdd, Nat.reduceLeDiff, if_true, List.nil_append, List.set_cons_zero, List.set_cons_succ, pOp, pLst, pVar, List.getElem?_cons_zero, List.getElem?_cons_succ, line, pIsV, errOf, List.lookup, beq45, String.reduceEq, decide_true, decide_false, addL45, List.cons_append]
 have e : pLc (pRng1 (aCons (pC (D.int 10)) aNil)) (fName 2) (pTest (pOp gIx (pVar 1) (pVar 2))) (pVar 2) [2] [some (D.adr 5), some (D.lst [D.bl false, D.bl false, D.bl false, D.bl false, D.bl true, D.bl false, D.bl false, D.bl false, D.bl false, D.bl false]), none] (Mm cx m w o t) = .ok (.lst [.int 4]) (Mm cx m w o t) := by
  show (if (Mm cx m w o t ++ [MO.lst [.int 4]]).length = 11 + 1 ∧ clL 11 [.int 4] = true ∧ ((Mm cx m w o t ++ [MO.lst [.int 4]]).take 11).all (clMO 11) = true then Out.ok (D.lst [.int 4]) ((Mm cx m w o t ++ [MO.lst [.int 4]]).take 11) else Out.bad) = _
  exact if_pos ⟨rfl, rfl, wfm cx s w o t⟩
 unfold sRet
 rw [e]
 rfl
theorem kinds_5 (cx : Str → Addr) {m : MO} (s : Rst m) (w : Str) (o t : Int) : Φ__law_kinds cx [.adr 6] (Mm cx m w o t) = .ok (.lst [.int 5]) (Mm cx m w o t) := by
 refine run_pure0 rfl (wfm cx s w o t) ?_ rfl
 unfold g__law_kinds
 rw [rn__law_kinds]
 simp only [sSeq, sAsg, aCons, aNil, pC, fName, Out.bind_ok, List.length_cons, List.length_nil, Nat.reduceAdd, Nat.reduceLeDiff, if_true, List.nil_append, List.set_cons_zero, List.set_cons_succ, pOp, pLst, pVar, List.getElem?_cons_zero, List.getElem?_cons_succ, line, pIsV, errOf, List.lookup, beq45, String.reduceEq, decide_true, decide_false, addL45, List.cons_append]
 have e : pLc (pRng1 (aCons (pC (D.int 10)) aNil)) (fName 2) (pTest (pOp gIx (pVar 1) (pVar 2))) (pVar 2) [2] [some (D.adr 6), some (D.lst [D.bl false, D.bl false, D.bl false, D.bl false, D.bl false, D.bl true, D.bl false, D.bl false, D.bl false, D.bl false]), none] (Mm cx m w o t) = .ok (.lst [.int 5]) (Mm cx m w o t) := by
  show (if (Mm cx m w o t ++ [MO.lst [.int 5]]).length = 11 + 1 ∧ clL 11 [.int 5] = true ∧ ((Mm cx m w o t ++ [MO.lst [.int 5]]).take 11).all (clMO 11) = true then Out.ok (D.lst [.int 5]) ((Mm cx m w o t ++ [MO.lst [.int 5]]).take 11) else Out.bad) = _
  exact if_pos ⟨rfl, rfl, wfm cx s w o t⟩
 unfold sRet
 rw [e]
 rfl
theorem kinds_6 (cx : Str → Addr) {m : MO} (s : Rst m) (w : Str) (o t : Int) : Φ__law_kinds cx [.adr 7] (Mm cx m w o t) = .ok (.lst [.int 6]) (Mm cx m w o t) := by
 refine run_pure0 rfl (wfm cx s w o t) ?_ rfl
 unfold g__law_kinds
 rw [rn__law_kinds]
 simp only [sSeq, sAsg, aCons, aNil, pC, fName, Out.bind_ok, List.length_cons, List.length_nil, Nat.reduceAdd, Nat.reduceLeDiff, if_true, List.nil_append, List.set_cons_zero, List.set_cons_succ, pOp, pLst, pVar, List.getElem?_cons_zero, List.getElem?_cons_succ, line, pIsV, errOf, List.lookup, beq45, String.reduceEq, decide_true, decide_false, addL45, List.cons_append]
 have e : pLc (pRng1 (aCons (pC (D.int 10)) aNil)) (fName 2) (pTest (pOp gIx (pVar 1) (pVar 2))) (pVar 2) [2] [some (D.adr 7), some (D.lst [D.bl false, D.bl false, D.bl false, D.bl false, D.bl false, D.bl false, D.bl true, D.bl false, D.bl false, D.bl false]), none] (Mm cx m w o t) = .ok (.lst [.int 6]) (Mm cx m w o t) := by
  show (if (Mm cx m w o t ++ [MO.lst [.int 6]]).length = 11 + 1 ∧ clL 11 [.int 6] = true ∧ ((Mm cx m w o t ++ [MO.lst [.int 6]]).take 11).all (clMO 11) = true then Out.ok (D.lst [.int 6]) ((Mm cx m w o t ++ [MO.lst [.int 6]]).take 11) else Out.bad) = _
  exact if_pos ⟨rfl, rfl, wfm cx s w o t⟩
 unfold sRet
 rw [e]
 rfl
theorem kinds_7 (cx : Str → Addr) {m : MO} (s : Rst m) (w : Str) (o t : Int) : Φ__law_kinds cx [.adr 8] (Mm cx m w o t) = .ok (.lst [.int 7]) (Mm cx m w o t) := by
 refine run_pure0 rfl (wfm cx s w o t) ?_ rfl
 unfold g__law_kinds
 rw [rn__law_kinds]
 simp only [sSeq, sAsg, aCons, aNil, pC, fName, Out.bind_ok, List.length_cons, List.length_nil, Nat.reduceAdd, Nat.reduceLeDiff, if_true, List.nil_append, List.set_cons_zero, List.set_cons_succ, pOp, pLst, pVar, List.getElem?_cons_zero, List.getElem?_cons_succ, line, pIsV, errOf, List.lookup, beq45, String.reduceEq, decide_true, decide_false, addL45, List.cons_append]
 have e : pLc (pRng1 (aCons (pC (D.int 10)) aNil)) (fName 2) (pTest (pOp gIx (pVar 1) (pVar 2))) (pVar 2) [2] [some (D.adr 8), some (D.lst [D.bl false, D.bl false, D.bl false, D.bl false, D.bl false, D.bl false, D.bl false, D.bl true, D.bl false, D.bl false]), none] (Mm cx m w o t) = .ok (.lst [.int 7]) (Mm cx m w o t) := by
  show (if (Mm cx m w o t ++ [MO.lst [.int 7]]).length = 11 + 1 ∧ clL 11 [.int 7] = true ∧ ((Mm cx m w o t ++ [MO.lst [.int 7]]).take 11).all (clMO 11) = true then Out.ok (D.lst [.int 7]) ((Mm cx m w o t ++ [MO.lst [.int 7]]).take 11) else Out.bad) = _
  exact if_pos ⟨rfl, rfl, wfm cx s w o t⟩
 unfold sRet
 rw [e]
 rfl
theorem kinds_8 (cx : Str → Addr) {m : MO} (s : Rst m) (w : Str) (o t : Int) : Φ__law_kinds cx [.adr 9] (Mm cx m w o t) = .ok (.lst [.int 8]) (Mm cx m w o t) := by
 refine run_pure0 rfl (wfm cx s w o t) ?_ rfl
 unfold g__law_kinds
 rw [rn__law_kinds]
 simp only [sSeq, sAsg, aCons, aNil, pC, fName, Out.bind_ok, List.length_cons, List.length_nil, Nat.reduceAdd, Nat.reduceLeDiff, if_true, List.nil_append, List.set_cons_zero, List.set_cons_succ, pOp, pLst, pVar, List.getElem?_cons_zero, List.getElem?_cons_succ, line, pIsV, errOf, List.lookup, beq45, String.reduceEq, decide_true, decide_false, addL45, List.cons_append]
 have e : pLc (pRng1 (aCons (pC (D.int 10)) aNil)) (fName 2) (pTest (pOp gIx (pVar 1) (pVar 2))) (pVar 2) [2] [some (D.adr 9), some (D.lst [D.bl false, D.bl false, D.bl false, D.bl false, D.bl false, D.bl false, D.bl false, D.bl false, D.bl true, D.bl false]), none] (Mm cx m w o t) = .ok (.lst [.int 8]) (Mm cx m w o t) := by
  show (if (Mm cx m w o t ++ [MO.lst [.int 8]]).length = 11 + 1 ∧ clL 11 [.int 8] = true ∧ ((Mm cx m w o t ++ [MO.lst [.int 8]]).take 11).all (clMO 11) = true then Out.ok (D.lst [.int 8]) ((Mm cx m w o t ++ [MO.lst [.int 8]]).take 11) else Out.bad) = _
  exact if_pos ⟨rfl, rfl, wfm cx s w o t⟩
 unfold sRet
 rw [e]
 rfl
theorem kinds_9 (cx : Str → Addr) {m : MO} (s : Rst m) (w : Str) (o t : Int) : Φ__law_kinds cx [.adr 10] (Mm cx m w o t) = .ok (.lst [.int 9]) (Mm cx m w o t) := by
 refine run_pure0 rfl (wfm cx s w o t) ?_ rfl
 unfold g__law_kinds
 rw [rn__law_kinds]
 simp only [sSeq, sAsg, aCons, aNil, pC, fName, Out.bind_ok, List.length_cons, List.length_nil, Nat.reduceAdd, Nat.reduceLeDiff, if_true, List.nil_append, List.set_cons_zero, List.set_cons_succ, pOp, pLst, pVar, List.getElem?_cons_zero, List.getElem?_cons_succ, line, pIsV, errOf, List.lookup, beq45, String.reduceEq, decide_true, decide_false, addL45, List.cons_append]
 have e : pLc (pRng1 (aCons (pC (D.int 10)) aNil)) (fName 2) (pTest (pOp gIx (pVar 1) (pVar 2))) (pVar 2) [2] [some (D.adr 10), some (D.lst [D.bl false, D.bl false, D.bl false, D.bl false, D.bl false, D.bl false, D.bl false, D.bl false, D.bl false, D.bl true]), none] (Mm cx m w o t) = .ok (.lst [.int 9]) (Mm cx m w o t) := by
  show (if (Mm cx m w o t ++ [MO.lst [.int 9]]).length = 11 + 1 ∧ clL 11 [.int 9] = true ∧ ((Mm cx m w o t ++ [MO.lst [.int 9]]).take 11).all (clMO 11) = true then Out.ok (D.lst [.int 9]) ((Mm cx m w o t ++ [MO.lst [.int 9]]).take 11) else Out.bad) = _
  exact if_pos ⟨rfl, rfl, wfm cx s w o t⟩
 unfold sRet
 rw [e]
 rfl
abbrev Mc (cx : Str → Addr) (m : MO) (w : Str) (o t : Int) : PM := Mm cx m w o t ++ [MO.err (cx (Str.ofString "ClaimError")) (Str.ofString "ClaimError") []]
theorem wfc (cx : Str → Addr) {m : MO} (s : Rst m) (w : Str) (o t : Int) : WfM (Mc cx m w o t) := (wfm cx s w o t).snoc rfl
theorem kinds_c (cx : Str → Addr) {m : MO} (s : Rst m) (w : Str) (o t : Int) : Φ__law_kinds cx [.adr 11] (Mc cx m w o t) = .ok (.lst []) (Mc cx m w o t) := by
 refine run_pure0 rfl (wfc cx s w o t) ?_ rfl
 unfold g__law_kinds
 rw [rn__law_kinds]
 simp only [sSeq, sAsg, aCons, aNil, pC, fName, Out.bind_ok, List.length_cons, List.length_nil, Nat.reduceAdd, Nat.reduceLeDiff, if_true, List.nil_append, List.set_cons_zero, List.set_cons_succ, pOp, pLst, pVar, List.getElem?_cons_zero, List.getElem?_cons_succ, line, pIsV, errOf, List.lookup, beq45, String.reduceEq, decide_true, decide_false, addL45, List.cons_append]
 have e : pLc (pRng1 (aCons (pC (D.int 10)) aNil)) (fName 2) (pTest (pOp gIx (pVar 1) (pVar 2))) (pVar 2) [2] [some (D.adr 11), some (D.lst [D.bl false, D.bl false, D.bl false, D.bl false, D.bl false, D.bl false, D.bl false, D.bl false, D.bl false, D.bl false]), none] (Mc cx m w o t) = .ok (.lst []) (Mc cx m w o t) := by
  show (if (Mc cx m w o t ++ [MO.lst []]).length = 12 + 1 ∧ clL 12 [] = true ∧ ((Mc cx m w o t ++ [MO.lst []]).take 12).all (clMO 12) = true then Out.ok (D.lst []) ((Mc cx m w o t ++ [MO.lst []]).take 12) else Out.bad) = _
  exact if_pos ⟨rfl, rfl, wfc cx s w o t⟩
 unfold sRet
 simp only [Mc, Mm, List.cons_append, List.nil_append] at e ⊢
 rw [e]
 rfl
abbrev r45 (ns : List Int) (w : Str) (o t : Int) (x : Option D) : Rho := [some (.rol (ns.map .int)), some (.adr 0), some (.str w), some (.int o), some (.int t), some (.lst [.adr 1, .adr 2, .adr 3, .adr 4, .adr 5, .adr 6, .adr 7, .adr 8, .adr 9, .adr 10]), x]
theorem row_0 (cx : Str → Addr) {m : MO} (s : Rst m) (ns : List Int) (w : Str) (o t : Int) : lb_law_1 cx Φ__law_next (Φ__law_kinds cx) (r45 ns w o t (some (.int 0))) (Mm cx m w o t) = .ok (.nx (r45 ns w o t (some (.int 0)))) (Mm cx m w o t) := by
 have g : ∀ M : PM, gIx M (.lst [.adr 1, .adr 2, .adr 3, .adr 4, .adr 5, .adr 6, .adr 7, .adr 8, .adr 9, .adr 10]) (.int 0) = .ok (.adr 1) M := fun _ => rfl
 have q : ∀ M : PM, gNeQ M (.lst [.int 0]) (.lst [.int 0]) = .ok (.bl false) M := fun _ => rfl
 have kk := kinds_0 cx s w o t
 unfold lb_law_1
 simp only [r45, sIf, pOr, pTest, pNot, pCall, asB, Bool.false_eq_true, if_false, Bool.not_true, sNext, g, kk, q, sSeq, sAsg, aCons, aNil, pC, fName, Out.bind_ok, List.length_cons, List.length_nil, Nat.reduceAdd, Nat.reduceLeDiff, if_true, List.nil_append, List.set_cons_zero, List.set_cons_succ, pOp, pLst, pVar, List.getElem?_cons_zero, List.getElem?_cons_succ, line, pIsV, errOf, List.lookup, beq45, String.reduceEq, decide_true, decide_false, addL45, List.cons_append]
theorem row_1 (cx : Str → Addr) {m : MO} (s : Rst m) (ns : List Int) (w : Str) (o t : Int) : lb_law_1 cx Φ__law_next (Φ__law_kinds cx) (r45 ns w o t (some (.int 1))) (Mm cx m w o t) = .ok (.nx (r45 ns w o t (some (.int 1)))) (Mm cx m w o t) := by
 have g : ∀ M : PM, gIx M (.lst [.adr 1, .adr 2, .adr 3, .adr 4, .adr 5, .adr 6, .adr 7, .adr 8, .adr 9, .adr 10]) (.int 1) = .ok (.adr 2) M := fun _ => rfl
 have q : ∀ M : PM, gNeQ M (.lst [.int 1]) (.lst [.int 1]) = .ok (.bl false) M := fun _ => rfl
 have kk := kinds_1 cx s w o t
 unfold lb_law_1
 simp only [r45, sIf, pOr, pTest, pNot, pCall, asB, Bool.false_eq_true, if_false, Bool.not_true, sNext, g, kk, q, sSeq, sAsg, aCons, aNil, pC, fName, Out.bind_ok, List.length_cons, List.length_nil, Nat.reduceAdd, Nat.reduceLeDiff, if_true, List.nil_append, List.set_cons_zero, List.set_cons_succ, pOp, pLst, pVar, List.getElem?_cons_zero, List.getElem?_cons_succ, line, pIsV, errOf, List.lookup, beq45, String.reduceEq, decide_true, decide_false, addL45, List.cons_append]
theorem row_2 (cx : Str → Addr) {m : MO} (s : Rst m) (ns : List Int) (w : Str) (o t : Int) : lb_law_1 cx Φ__law_next (Φ__law_kinds cx) (r45 ns w o t (some (.int 2))) (Mm cx m w o t) = .ok (.nx (r45 ns w o t (some (.int 2)))) (Mm cx m w o t) := by
 have g : ∀ M : PM, gIx M (.lst [.adr 1, .adr 2, .adr 3, .adr 4, .adr 5, .adr 6, .adr 7, .adr 8, .adr 9, .adr 10]) (.int 2) = .ok (.adr 3) M := fun _ => rfl
 have q : ∀ M : PM, gNeQ M (.lst [.int 2]) (.lst [.int 2]) = .ok (.bl false) M := fun _ => rfl
 have kk := kinds_2 cx s w o t
 unfold lb_law_1
 simp only [r45, sIf, pOr, pTest, pNot, pCall, asB, Bool.false_eq_true, if_false, Bool.not_true, sNext, g, kk, q, sSeq, sAsg, aCons, aNil, pC, fName, Out.bind_ok, List.length_cons, List.length_nil, Nat.reduceAdd, Nat.reduceLeDiff, if_true, List.nil_append, List.set_cons_zero, List.set_cons_succ, pOp, pLst, pVar, List.getElem?_cons_zero, List.getElem?_cons_succ, line, pIsV, errOf, List.lookup, beq45, String.reduceEq, decide_true, decide_false, addL45, List.cons_append]
theorem row_3 (cx : Str → Addr) {m : MO} (s : Rst m) (ns : List Int) (w : Str) (o t : Int) : lb_law_1 cx Φ__law_next (Φ__law_kinds cx) (r45 ns w o t (some (.int 3))) (Mm cx m w o t) = .ok (.nx (r45 ns w o t (some (.int 3)))) (Mm cx m w o t) := by
 have g : ∀ M : PM, gIx M (.lst [.adr 1, .adr 2, .adr 3, .adr 4, .adr 5, .adr 6, .adr 7, .adr 8, .adr 9, .adr 10]) (.int 3) = .ok (.adr 4) M := fun _ => rfl
 have q : ∀ M : PM, gNeQ M (.lst [.int 3]) (.lst [.int 3]) = .ok (.bl false) M := fun _ => rfl
 have kk := kinds_3 cx s w o t
 unfold lb_law_1
 simp only [r45, sIf, pOr, pTest, pNot, pCall, asB, Bool.false_eq_true, if_false, Bool.not_true, sNext, g, kk, q, sSeq, sAsg, aCons, aNil, pC, fName, Out.bind_ok, List.length_cons, List.length_nil, Nat.reduceAdd, Nat.reduceLeDiff, if_true, List.nil_append, List.set_cons_zero, List.set_cons_succ, pOp, pLst, pVar, List.getElem?_cons_zero, List.getElem?_cons_succ, line, pIsV, errOf, List.lookup, beq45, String.reduceEq, decide_true, decide_false, addL45, List.cons_append]
theorem row_4 (cx : Str → Addr) {m : MO} (s : Rst m) (ns : List Int) (w : Str) (o t : Int) : lb_law_1 cx Φ__law_next (Φ__law_kinds cx) (r45 ns w o t (some (.int 4))) (Mm cx m w o t) = .ok (.nx (r45 ns w o t (some (.int 4)))) (Mm cx m w o t) := by
 have g : ∀ M : PM, gIx M (.lst [.adr 1, .adr 2, .adr 3, .adr 4, .adr 5, .adr 6, .adr 7, .adr 8, .adr 9, .adr 10]) (.int 4) = .ok (.adr 5) M := fun _ => rfl
 have q : ∀ M : PM, gNeQ M (.lst [.int 4]) (.lst [.int 4]) = .ok (.bl false) M := fun _ => rfl
 have kk := kinds_4 cx s w o t
 unfold lb_law_1
 simp only [r45, sIf, pOr, pTest, pNot, pCall, asB, Bool.false_eq_true, if_false, Bool.not_true, sNext, g, kk, q, sSeq, sAsg, aCons, aNil, pC, fName, Out.bind_ok, List.length_cons, List.length_nil, Nat.reduceAdd, Nat.reduceLeDiff, if_true, List.nil_append, List.set_cons_zero, List.set_cons_succ, pOp, pLst, pVar, List.getElem?_cons_zero, List.getElem?_cons_succ, line, pIsV, errOf, List.lookup, beq45, String.reduceEq, decide_true, decide_false, addL45, List.cons_append]
theorem row_5 (cx : Str → Addr) {m : MO} (s : Rst m) (ns : List Int) (w : Str) (o t : Int) : lb_law_1 cx Φ__law_next (Φ__law_kinds cx) (r45 ns w o t (some (.int 5))) (Mm cx m w o t) = .ok (.nx (r45 ns w o t (some (.int 5)))) (Mm cx m w o t) := by
 have g : ∀ M : PM, gIx M (.lst [.adr 1, .adr 2, .adr 3, .adr 4, .adr 5, .adr 6, .adr 7, .adr 8, .adr 9, .adr 10]) (.int 5) = .ok (.adr 6) M := fun _ => rfl
 have q : ∀ M : PM, gNeQ M (.lst [.int 5]) (.lst [.int 5]) = .ok (.bl false) M := fun _ => rfl
 have kk := kinds_5 cx s w o t
 unfold lb_law_1
 simp only [r45, sIf, pOr, pTest, pNot, pCall, asB, Bool.false_eq_true, if_false, Bool.not_true, sNext, g, kk, q, sSeq, sAsg, aCons, aNil, pC, fName, Out.bind_ok, List.length_cons, List.length_nil, Nat.reduceAdd, Nat.reduceLeDiff, if_true, List.nil_append, List.set_cons_zero, List.set_cons_succ, pOp, pLst, pVar, List.getElem?_cons_zero, List.getElem?_cons_succ, line, pIsV, errOf, List.lookup, beq45, String.reduceEq, decide_true, decide_false, addL45, List.cons_append]
theorem row_6 (cx : Str → Addr) {m : MO} (s : Rst m) (ns : List Int) (w : Str) (o t : Int) : lb_law_1 cx Φ__law_next (Φ__law_kinds cx) (r45 ns w o t (some (.int 6))) (Mm cx m w o t) = .ok (.nx (r45 ns w o t (some (.int 6)))) (Mm cx m w o t) := by
 have g : ∀ M : PM, gIx M (.lst [.adr 1, .adr 2, .adr 3, .adr 4, .adr 5, .adr 6, .adr 7, .adr 8, .adr 9, .adr 10]) (.int 6) = .ok (.adr 7) M := fun _ => rfl
 have q : ∀ M : PM, gNeQ M (.lst [.int 6]) (.lst [.int 6]) = .ok (.bl false) M := fun _ => rfl
 have kk := kinds_6 cx s w o t
 unfold lb_law_1
 simp only [r45, sIf, pOr, pTest, pNot, pCall, asB, Bool.false_eq_true, if_false, Bool.not_true, sNext, g, kk, q, sSeq, sAsg, aCons, aNil, pC, fName, Out.bind_ok, List.length_cons, List.length_nil, Nat.reduceAdd, Nat.reduceLeDiff, if_true, List.nil_append, List.set_cons_zero, List.set_cons_succ, pOp, pLst, pVar, List.getElem?_cons_zero, List.getElem?_cons_succ, line, pIsV, errOf, List.lookup, beq45, String.reduceEq, decide_true, decide_false, addL45, List.cons_append]
theorem row_7 (cx : Str → Addr) {m : MO} (s : Rst m) (ns : List Int) (w : Str) (o t : Int) : lb_law_1 cx Φ__law_next (Φ__law_kinds cx) (r45 ns w o t (some (.int 7))) (Mm cx m w o t) = .ok (.nx (r45 ns w o t (some (.int 7)))) (Mm cx m w o t) := by
 have g : ∀ M : PM, gIx M (.lst [.adr 1, .adr 2, .adr 3, .adr 4, .adr 5, .adr 6, .adr 7, .adr 8, .adr 9, .adr 10]) (.int 7) = .ok (.adr 8) M := fun _ => rfl
 have q : ∀ M : PM, gNeQ M (.lst [.int 7]) (.lst [.int 7]) = .ok (.bl false) M := fun _ => rfl
 have kk := kinds_7 cx s w o t
 unfold lb_law_1
 simp only [r45, sIf, pOr, pTest, pNot, pCall, asB, Bool.false_eq_true, if_false, Bool.not_true, sNext, g, kk, q, sSeq, sAsg, aCons, aNil, pC, fName, Out.bind_ok, List.length_cons, List.length_nil, Nat.reduceAdd, Nat.reduceLeDiff, if_true, List.nil_append, List.set_cons_zero, List.set_cons_succ, pOp, pLst, pVar, List.getElem?_cons_zero, List.getElem?_cons_succ, line, pIsV, errOf, List.lookup, beq45, String.reduceEq, decide_true, decide_false, addL45, List.cons_append]
theorem row_8 (cx : Str → Addr) {m : MO} (s : Rst m) (ns : List Int) (w : Str) (o t : Int) : lb_law_1 cx Φ__law_next (Φ__law_kinds cx) (r45 ns w o t (some (.int 8))) (Mm cx m w o t) = .ok (.nx (r45 ns w o t (some (.int 8)))) (Mm cx m w o t) := by
 have g : ∀ M : PM, gIx M (.lst [.adr 1, .adr 2, .adr 3, .adr 4, .adr 5, .adr 6, .adr 7, .adr 8, .adr 9, .adr 10]) (.int 8) = .ok (.adr 9) M := fun _ => rfl
 have q : ∀ M : PM, gNeQ M (.lst [.int 8]) (.lst [.int 8]) = .ok (.bl false) M := fun _ => rfl
 have kk := kinds_8 cx s w o t
 unfold lb_law_1
 simp only [r45, sIf, pOr, pTest, pNot, pCall, asB, Bool.false_eq_true, if_false, Bool.not_true, sNext, g, kk, q, sSeq, sAsg, aCons, aNil, pC, fName, Out.bind_ok, List.length_cons, List.length_nil, Nat.reduceAdd, Nat.reduceLeDiff, if_true, List.nil_append, List.set_cons_zero, List.set_cons_succ, pOp, pLst, pVar, List.getElem?_cons_zero, List.getElem?_cons_succ, line, pIsV, errOf, List.lookup, beq45, String.reduceEq, decide_true, decide_false, addL45, List.cons_append]
theorem row_9 (cx : Str → Addr) {m : MO} (s : Rst m) (ns : List Int) (w : Str) (o t : Int) : lb_law_1 cx Φ__law_next (Φ__law_kinds cx) (r45 ns w o t (some (.int 9))) (Mm cx m w o t) = .ok (.nx (r45 ns w o t (some (.int 9)))) (Mm cx m w o t) := by
 have g : ∀ M : PM, gIx M (.lst [.adr 1, .adr 2, .adr 3, .adr 4, .adr 5, .adr 6, .adr 7, .adr 8, .adr 9, .adr 10]) (.int 9) = .ok (.adr 10) M := fun _ => rfl
 have q : ∀ M : PM, gNeQ M (.lst [.int 9]) (.lst [.int 9]) = .ok (.bl false) M := fun _ => rfl
 have kk := kinds_9 cx s w o t
 unfold lb_law_1
 simp only [r45, sIf, pOr, pTest, pNot, pCall, asB, Bool.false_eq_true, if_false, Bool.not_true, sNext, g, kk, q, sSeq, sAsg, aCons, aNil, pC, fName, Out.bind_ok, List.length_cons, List.length_nil, Nat.reduceAdd, Nat.reduceLeDiff, if_true, List.nil_append, List.set_cons_zero, List.set_cons_succ, pOp, pLst, pVar, List.getElem?_cons_zero, List.getElem?_cons_succ, line, pIsV, errOf, List.lookup, beq45, String.reduceEq, decide_true, decide_false, addL45, List.cons_append]
theorem each_step {g : FG} {b : FS} {d : D} {ds : List D} {ρ ρ1 ρ2 : Rho} {M M1 M2 : PM} (h1 : g d ρ M = .ok ρ1 M1) (h2 : b ρ1 M1 = .ok (.nx ρ2) M2) : sEach g b (d :: ds) ρ M = sEach g b ds ρ2 M2 := by
 rw [sEach, h1, Out.bind_ok, h2, Out.bind_ok]
theorem loop45 (cx : Str → Addr) {m : MO} (s : Rst m) (ns : List Int) (w : Str) (o t : Int) : sEach (fName 6) (lb_law_1 cx Φ__law_next (Φ__law_kinds cx)) [.int 0, .int 1, .int 2, .int 3, .int 4, .int 5, .int 6, .int 7, .int 8, .int 9] (r45 ns w o t none) (Mm cx m w o t) = .ok (.nx (r45 ns w o t (some (.int 9)))) (Mm cx m w o t) := by
 rw [each_step (ρ1 := r45 ns w o t (some (.int 0))) (M1 := Mm cx m w o t) rfl (row_0 cx s ns w o t)]
 rw [each_step (ρ1 := r45 ns w o t (some (.int 1))) (M1 := Mm cx m w o t) rfl (row_1 cx s ns w o t)]
 rw [each_step (ρ1 := r45 ns w o t (some (.int 2))) (M1 := Mm cx m w o t) rfl (row_2 cx s ns w o t)]
 rw [each_step (ρ1 := r45 ns w o t (some (.int 3))) (M1 := Mm cx m w o t) rfl (row_3 cx s ns w o t)]
 rw [each_step (ρ1 := r45 ns w o t (some (.int 4))) (M1 := Mm cx m w o t) rfl (row_4 cx s ns w o t)]
 rw [each_step (ρ1 := r45 ns w o t (some (.int 5))) (M1 := Mm cx m w o t) rfl (row_5 cx s ns w o t)]
 rw [each_step (ρ1 := r45 ns w o t (some (.int 6))) (M1 := Mm cx m w o t) rfl (row_6 cx s ns w o t)]
 rw [each_step (ρ1 := r45 ns w o t (some (.int 7))) (M1 := Mm cx m w o t) rfl (row_7 cx s ns w o t)]
 rw [each_step (ρ1 := r45 ns w o t (some (.int 8))) (M1 := Mm cx m w o t) rfl (row_8 cx s ns w o t)]
 rw [each_step (ρ1 := r45 ns w o t (some (.int 9))) (M1 := Mm cx m w o t) rfl (row_9 cx s ns w o t)]
 rw [sEach]
theorem eqT (M : PM) {xs : List D} {ys : List PyData} (h : pyDs xs = some ys) (c : PyData.canLayAll0 ys = true) (d : PyData.depthAll ys ≤ 5) : gEqQ M (.tup xs) (.tup xs) = .ok (.bl true) M ∧ gNeQ M (.tup xs) (.tup xs) = .ok (.bl false) M := by
 have e : pyM M (.tup xs) = some (.tuple ys) := by
  show pyD (.tup xs) = _
  rw [pyD, h]
  rfl
 have cl : PyData.canLay0 (.tuple ys) = true := by rw [PyData.canLay0]; exact c
 have sh : SeqAt.shaped (.tuple ys) = true := by
  unfold SeqAt.shaped
  rw [Bool.and_eq_true, decide_eq_true_eq]
  exact ⟨cl, by rw [PyData.depth]; omega⟩
 unfold gEqQ gNeQ
 simp only [e, sh, and_self, if_true, SeqAt.eqv_refl _ cl, Bool.not_true]
theorem eq2 (M : PM) (a b : D) (x y : PyData) (ha : pyD a = some x) (hb : pyD b = some y) (cx : PyData.canLay0 x = true) (cy : PyData.canLay0 y = true) (dx : PyData.depth x = 0) (dy : PyData.depth y = 0) : gEqQ M (.tup [a, b]) (.tup [a, b]) = .ok (.bl true) M ∧ gNeQ M (.tup [a, b]) (.tup [a, b]) = .ok (.bl false) M :=
 eqT M (ys := [x, y]) (by rw [pyDs, pyDs, pyDs, ha, hb]) (by rw [PyData.canLayAll0, PyData.canLayAll0, PyData.canLayAll0, cx, cy]; rfl) (by rw [PyData.depthAll, PyData.depthAll, PyData.depthAll, dx, dy]; omega)
theorem pyI (i : Int) : pyD (.int i) = some (.int i) ∧ PyData.canLay0 (.int i) = true ∧ PyData.depth (.int i) = 0 := ⟨by rw [pyD], by rw [PyData.canLay0], by rw [PyData.depth]⟩
theorem pyS (z : Str) (h : PyData.strOk z = true) : pyD (.str z) = some (.str z) ∧ PyData.canLay0 (.str z) = true ∧ PyData.depth (.str z) = 0 := ⟨by rw [pyD], by rw [PyData.canLay0]; exact h, by rw [PyData.depth]⟩
theorem law_true (cx : Str → Addr) (ns : List Int) (_ : ns.length ≤ 63) : ∃ M, Φ_law cx [.rol (ns.map .int)] [] = .ok (.bl true) M := by
 have main : ∃ J, g_law cx Φ__law_next (Φ__law_kinds cx) [some (.rol (ns.map .int)), none, none, none, none, none, none] [] = .ok (.rt (.bl true)) J := by
  obtain ⟨r1, m1, h1, p1, q1, s1⟩ := next45 (ns := ns) (many := 6) (by decide) Rst.start
  obtain ⟨r2, m2, h2, p2, q2, s2⟩ := next45 (ns := ns) (many := 900) (by decide) s1
  obtain ⟨r3, m3, h3, p3, q3, s3⟩ := next45 (ns := ns) (many := 90) (by decide) s2
  obtain ⟨w, hw, w1, w2⟩ := word45 r1 p1 q1
  have o1 : okD (.int (1 + r2)) = true := by simp only [okD, decide_eq_true_eq]; omega
  have t1 : okD (.int (1 + r3)) = true := by simp only [okD, decide_eq_true_eq]; omega
  unfold g_law
  simp only [sSeq, sAsg, pNew, aCons, aNil, pC, fName, Out.bind_ok, List.length_cons, List.length_nil, Nat.reduceAdd, Nat.reduceLeDiff, if_true, List.nil_append, List.set_cons_zero, List.set_cons_succ, pOp, pLst, pCall, pVar, List.getElem?_cons_zero, List.getElem?_cons_succ, line, h1, hw, h2, add45, h3, pMkV, pMkV0, List.all_cons, List.all_nil, o1, t1, w1, w3, Bool.and_true, and_self, true_and, List.cons_append, addL45, eq_self, List.reverse_cons, List.reverse_nil, List.zip_cons_cons, List.zip_nil_left]
  have rng : ∀ (ρ : Rho) (M : PM), pRng1 (aCons (pC (D.int 10)) aNil) ρ M = .ok [.int 0, .int 1, .int 2, .int 3, .int 4, .int 5, .int 6, .int 7, .int 8, .int 9] M := fun _ _ => rfl
  have n1 := fun M => (eq2 M (.int (1 + r2)) (.int (1 + r3)) _ _ (pyI _).1 (pyI _).1 (pyI _).2.1 (pyI _).2.1 (pyI _).2.2 (pyI _).2.2).2
  have n2 := fun M => (eq2 M (.str w) (.str (Str.ofString "unknown")) _ _ (pyS w w2).1 (pyS _ (by decide +kernel)).1 (pyS w w2).2.1 (pyS _ (by decide +kernel)).2.1 (pyS w w2).2.2 (pyS _ (by decide +kernel)).2.2).2
  have n3 := fun M => (eqT M (xs := [.int (1 + r2), .str w, .str w]) (ys := [.int (1 + r2), .str w, .str w]) (by rw [pyDs, pyDs, pyDs, pyDs, (pyI _).1, (pyS w w2).1]) (by rw [PyData.canLayAll0, PyData.canLayAll0, PyData.canLayAll0, PyData.canLayAll0, (pyI _).2.1, (pyS w w2).2.1]; rfl) (by rw [PyData.depthAll, PyData.depthAll, PyData.depthAll, PyData.depthAll, (pyI _).2.2, (pyS w w2).2.2]; omega)).2
  have n4 := fun M => (eq2 M (.int (1 + r3)) (.int (1 + r2)) _ _ (pyI _).1 (pyI _).1 (pyI _).2.1 (pyI _).2.1 (pyI _).2.2 (pyI _).2.2).1
  have n5 : ∀ M : PM, gEqQ M (.lst []) (.lst []) = .ok (.bl true) M := fun _ => rfl
  have ix0 : ∀ M : PM, gIx M (.lst [.adr 1, .adr 2, .adr 3, .adr 4, .adr 5, .adr 6, .adr 7, .adr 8, .adr 9, .adr 10]) (.int 0) = .ok (.adr 1) M := fun _ => rfl
  have ix1 : ∀ M : PM, gIx M (.lst [.adr 1, .adr 2, .adr 3, .adr 4, .adr 5, .adr 6, .adr 7, .adr 8, .adr 9, .adr 10]) (.int 1) = .ok (.adr 2) M := fun _ => rfl
  have ix2 : ∀ M : PM, gIx M (.lst [.adr 1, .adr 2, .adr 3, .adr 4, .adr 5, .adr 6, .adr 7, .adr 8, .adr 9, .adr 10]) (.int 2) = .ok (.adr 3) M := fun _ => rfl
  have ix3 : ∀ M : PM, gIx M (.lst [.adr 1, .adr 2, .adr 3, .adr 4, .adr 5, .adr 6, .adr 7, .adr 8, .adr 9, .adr 10]) (.int 3) = .ok (.adr 4) M := fun _ => rfl
  have ix4 : ∀ M : PM, gIx M (.lst [.adr 1, .adr 2, .adr 3, .adr 4, .adr 5, .adr 6, .adr 7, .adr 8, .adr 9, .adr 10]) (.int 4) = .ok (.adr 5) M := fun _ => rfl
  have ix5 : ∀ M : PM, gIx M (.lst [.adr 1, .adr 2, .adr 3, .adr 4, .adr 5, .adr 6, .adr 7, .adr 8, .adr 9, .adr 10]) (.int 5) = .ok (.adr 6) M := fun _ => rfl
  have ix6 : ∀ M : PM, gIx M (.lst [.adr 1, .adr 2, .adr 3, .adr 4, .adr 5, .adr 6, .adr 7, .adr 8, .adr 9, .adr 10]) (.int 6) = .ok (.adr 7) M := fun _ => rfl
  have loop := loop45 cx s3 ns w (1 + r2) (1 + r3)
  have kc := kinds_c cx s3 w (1 + r2) (1 + r3)
  simp only [Mc, List.cons_append, List.nil_append] at kc
  simp only [sFor, rng, Out.bind_ok, loop]
  refine ⟨Mc cx m3 w (1 + r2) (1 + r3), ?_⟩
  simp only [r45, Mm, sIf, pOr, pTest, asB, Bool.false_eq_true, if_false, sNext, sRet, pAndV, pTup, pFldV, pCall, pMkV0, ix0, ix1, ix2, ix3, ix4, ix5, ix6, n1, n2, n3, n4, n5, kc, sSeq, sAsg, aCons, aNil, pC, fName, Out.bind_ok, List.length_cons, List.length_nil, Nat.reduceAdd, Nat.reduceLeDiff, if_true, List.nil_append, List.set_cons_zero, List.set_cons_succ, pOp, pLst, pVar, List.getElem?_cons_zero, List.getElem?_cons_succ, line, errOf, List.lookup, beq45, String.reduceEq, decide_true, decide_false, List.cons_append]
 obtain ⟨J, h⟩ := main
 exact ⟨[], run_rt (M := []) (M1 := []) (J := J) rfl h rfl rfl rfl⟩
end
end M
namespace Hd
open PySem PySem.Spec PyProof.Rows L2 Pd G Hh
theorem facts {w : World} {K : PySem.W.Frag} {h : Heap} {mg : Str → Option Value} {f : Addr} (X : K.In h) (G : h.Ns mainGlobals mg) (hfa : mg "law" = some (.ref f)) (c : SaysP fa fn ts inis ex w K)
 : ∃ fd : FuncData, (∀ (s : Shared) (u : Value), BindsTo s fd ⟨[u], []⟩ [("script", u)]) ∧ ∀ base : Heap, K.In base → base.Ns mainGlobals mg → FnOk (PySem.Challenge.rw_carryclaim_k45_errors_of_their_own).prog w K mg base CX0 3 f fd ["script"] (spP K (Φ_law (He.ga K))) := by
 have c1 : He.SaysD fa fn K := c.t.d
 have ce : (exs.all fun f => f K) = true := c.more
 have F__law_next : FunM K mg "_law_next" s__law_next [Str.ofString "state", Str.ofString "script", Str.ofString "many"] := funM X G (c1.fact 0 (f := .glo "_law_next") rfl) (c1.def_ 0 (d := dd "_law_next" (Hd.topS 13)) rfl) (fun kV doc pm an cdv ct us hl => match us, hl with | [_, _, _], _ => rfl)
 have F__law_kinds : FunM K mg "_law_kinds" s__law_kinds [Str.ofString "e"] := funM X G (c1.fact 1 (f := .glo "_law_kinds") rfl) (c1.def_ 1 (d := dd "_law_kinds" (Hd.topS 14)) rfl) (fun kV doc pm an cdv ct us hl => match us, hl with | [_], _ => rfl)
 have F_law : FunM K mg "law" s_law [Str.ofString "script"] := funM X G (c1.fact 2 (f := .glo "law") rfl) (c1.def_ 2 (d := dd "law" (Hd.topS 15)) rfl) (fun kV doc pm an cdv ct us hl => match us, hl with | [_], _ => rfl)
 have m_int : mg "int" = none := He.free_ok X G (c1.fact 3 (f := .free "int") rfl)
 have m_len : mg "len" = none := He.free_ok X G (c1.fact 4 (f := .free "len") rfl)
 have m_abs : mg "abs" = none := He.free_ok X G (c1.fact 5 (f := .free "abs") rfl)
 have m_isinstance : mg "isinstance" = none := He.free_ok X G (c1.fact 6 (f := .free "isinstance") rfl)
 have m_range : mg "range" = none := He.free_ok X G (c1.fact 7 (f := .free "range") rfl)
 have m_ValueError : mg "ValueError" = none := He.free_ok X G (c1.fact 8 (f := .free "ValueError") rfl)
 have K_PaperProblem : mg "PaperProblem" = some (.ref ((He.ga K) "PaperProblem")) := He.glo_ok X G (c1.fact 9 (f := .glo "PaperProblem") rfl)
 have V_PaperProblem : IsNm K (He.ga K) [("ClaimError", false), ("SyntaxProblem", false), ("ProgramProblem", false), ("PaperProblem", true), ("EditProblem", false), ("Clash", false), ("NoVersion", false), ("JournalProblem", false), ("Full", false), ("NotMergeable", false), ("NotEdited", false)] (.ref ((He.ga K) "PaperProblem")) := isNm (u := (fun K => .ref (He.ga K "PaperProblem"))) (ex_at ce 0 (f := fun K => kit1B K [("ClaimError", false), ("SyntaxProblem", false), ("ProgramProblem", false), ("PaperProblem", true), ("EditProblem", false), ("Clash", false), ("NoVersion", false), ("JournalProblem", false), ("Full", false), ("NotMergeable", false), ("NotEdited", false)] (fun K => .ref (He.ga K "PaperProblem"))) rfl)
 have K_ProgramProblem : mg "ProgramProblem" = some (.ref ((He.ga K) "ProgramProblem")) := He.glo_ok X G (c1.fact 10 (f := .glo "ProgramProblem") rfl)
 have V_ProgramProblem : IsNm K (He.ga K) [("ClaimError", false), ("SyntaxProblem", false), ("ProgramProblem", true), ("PaperProblem", false), ("EditProblem", false), ("Clash", false), ("NoVersion", false), ("JournalProblem", false), ("Full", false), ("NotMergeable", false), ("NotEdited", false)] (.ref ((He.ga K) "ProgramProblem")) := isNm (u := (fun K => .ref (He.ga K "ProgramProblem"))) (ex_at ce 1 (f := fun K => kit1B K [("ClaimError", false), ("SyntaxProblem", false), ("ProgramProblem", true), ("PaperProblem", false), ("EditProblem", false), ("Clash", false), ("NoVersion", false), ("JournalProblem", false), ("Full", false), ("NotMergeable", false), ("NotEdited", false)] (fun K => .ref (He.ga K "ProgramProblem"))) rfl)
 have K_SyntaxProblem : mg "SyntaxProblem" = some (.ref ((He.ga K) "SyntaxProblem")) := He.glo_ok X G (c1.fact 11 (f := .glo "SyntaxProblem") rfl)
 have V_SyntaxProblem : IsNm K (He.ga K) [("ClaimError", false), ("SyntaxProblem", true), ("ProgramProblem", false), ("PaperProblem", false), ("EditProblem", false), ("Clash", false), ("NoVersion", false), ("JournalProblem", false), ("Full", false), ("NotMergeable", false), ("NotEdited", false)] (.ref ((He.ga K) "SyntaxProblem")) := isNm (u := (fun K => .ref (He.ga K "SyntaxProblem"))) (ex_at ce 2 (f := fun K => kit1B K [("ClaimError", false), ("SyntaxProblem", true), ("ProgramProblem", false), ("PaperProblem", false), ("EditProblem", false), ("Clash", false), ("NoVersion", false), ("JournalProblem", false), ("Full", false), ("NotMergeable", false), ("NotEdited", false)] (fun K => .ref (He.ga K "SyntaxProblem"))) rfl)
 have K_NoVersion : mg "NoVersion" = some (.ref ((He.ga K) "NoVersion")) := He.glo_ok X G (c1.fact 12 (f := .glo "NoVersion") rfl)
 have V_NoVersion : IsNm K (He.ga K) [("ClaimError", false), ("SyntaxProblem", false), ("ProgramProblem", false), ("PaperProblem", false), ("EditProblem", false), ("Clash", false), ("NoVersion", true), ("JournalProblem", false), ("Full", false), ("NotMergeable", false), ("NotEdited", false)] (.ref ((He.ga K) "NoVersion")) := isNm (u := (fun K => .ref (He.ga K "NoVersion"))) (ex_at ce 3 (f := fun K => kit1B K [("ClaimError", false), ("SyntaxProblem", false), ("ProgramProblem", false), ("PaperProblem", false), ("EditProblem", false), ("Clash", false), ("NoVersion", true), ("JournalProblem", false), ("Full", false), ("NotMergeable", false), ("NotEdited", false)] (fun K => .ref (He.ga K "NoVersion"))) rfl)
 have K_Clash : mg "Clash" = some (.ref ((He.ga K) "Clash")) := He.glo_ok X G (c1.fact 13 (f := .glo "Clash") rfl)
 have V_Clash : IsNm K (He.ga K) [("ClaimError", false), ("SyntaxProblem", false), ("ProgramProblem", false), ("PaperProblem", false), ("EditProblem", false), ("Clash", true), ("NoVersion", false), ("JournalProblem", false), ("Full", false), ("NotMergeable", false), ("NotEdited", false)] (.ref ((He.ga K) "Clash")) := isNm (u := (fun K => .ref (He.ga K "Clash"))) (ex_at ce 4 (f := fun K => kit1B K [("ClaimError", false), ("SyntaxProblem", false), ("ProgramProblem", false), ("PaperProblem", false), ("EditProblem", false), ("Clash", true), ("NoVersion", false), ("JournalProblem", false), ("Full", false), ("NotMergeable", false), ("NotEdited", false)] (fun K => .ref (He.ga K "Clash"))) rfl)
 have K_EditProblem : mg "EditProblem" = some (.ref ((He.ga K) "EditProblem")) := He.glo_ok X G (c1.fact 14 (f := .glo "EditProblem") rfl)
 have V_EditProblem : IsNm K (He.ga K) [("ClaimError", false), ("SyntaxProblem", false), ("ProgramProblem", false), ("PaperProblem", false), ("EditProblem", true), ("Clash", false), ("NoVersion", false), ("JournalProblem", false), ("Full", false), ("NotMergeable", false), ("NotEdited", false)] (.ref ((He.ga K) "EditProblem")) := isNm (u := (fun K => .ref (He.ga K "EditProblem"))) (ex_at ce 5 (f := fun K => kit1B K [("ClaimError", false), ("SyntaxProblem", false), ("ProgramProblem", false), ("PaperProblem", false), ("EditProblem", true), ("Clash", false), ("NoVersion", false), ("JournalProblem", false), ("Full", false), ("NotMergeable", false), ("NotEdited", false)] (fun K => .ref (He.ga K "EditProblem"))) rfl)
 have K_NotEdited : mg "NotEdited" = some (.ref ((He.ga K) "NotEdited")) := He.glo_ok X G (c1.fact 15 (f := .glo "NotEdited") rfl)
 have V_NotEdited : IsNm K (He.ga K) [("ClaimError", false), ("SyntaxProblem", false), ("ProgramProblem", false), ("PaperProblem", false), ("EditProblem", false), ("Clash", false), ("NoVersion", false), ("JournalProblem", false), ("Full", false), ("NotMergeable", false), ("NotEdited", true)] (.ref ((He.ga K) "NotEdited")) := isNm (u := (fun K => .ref (He.ga K "NotEdited"))) (ex_at ce 6 (f := fun K => kit1B K [("ClaimError", false), ("SyntaxProblem", false), ("ProgramProblem", false), ("PaperProblem", false), ("EditProblem", false), ("Clash", false), ("NoVersion", false), ("JournalProblem", false), ("Full", false), ("NotMergeable", false), ("NotEdited", true)] (fun K => .ref (He.ga K "NotEdited"))) rfl)
 have K_NotMergeable : mg "NotMergeable" = some (.ref ((He.ga K) "NotMergeable")) := He.glo_ok X G (c1.fact 16 (f := .glo "NotMergeable") rfl)
 have V_NotMergeable : IsNm K (He.ga K) [("ClaimError", false), ("SyntaxProblem", false), ("ProgramProblem", false), ("PaperProblem", false), ("EditProblem", false), ("Clash", false), ("NoVersion", false), ("JournalProblem", false), ("Full", false), ("NotMergeable", true), ("NotEdited", false)] (.ref ((He.ga K) "NotMergeable")) := isNm (u := (fun K => .ref (He.ga K "NotMergeable"))) (ex_at ce 7 (f := fun K => kit1B K [("ClaimError", false), ("SyntaxProblem", false), ("ProgramProblem", false), ("PaperProblem", false), ("EditProblem", false), ("Clash", false), ("NoVersion", false), ("JournalProblem", false), ("Full", false), ("NotMergeable", true), ("NotEdited", false)] (fun K => .ref (He.ga K "NotMergeable"))) rfl)
 have K_Full : mg "Full" = some (.ref ((He.ga K) "Full")) := He.glo_ok X G (c1.fact 17 (f := .glo "Full") rfl)
 have V_Full : IsNm K (He.ga K) [("ClaimError", false), ("SyntaxProblem", false), ("ProgramProblem", false), ("PaperProblem", false), ("EditProblem", false), ("Clash", false), ("NoVersion", false), ("JournalProblem", false), ("Full", true), ("NotMergeable", false), ("NotEdited", false)] (.ref ((He.ga K) "Full")) := isNm (u := (fun K => .ref (He.ga K "Full"))) (ex_at ce 8 (f := fun K => kit1B K [("ClaimError", false), ("SyntaxProblem", false), ("ProgramProblem", false), ("PaperProblem", false), ("EditProblem", false), ("Clash", false), ("NoVersion", false), ("JournalProblem", false), ("Full", true), ("NotMergeable", false), ("NotEdited", false)] (fun K => .ref (He.ga K "Full"))) rfl)
 have K_JournalProblem : mg "JournalProblem" = some (.ref ((He.ga K) "JournalProblem")) := He.glo_ok X G (c1.fact 18 (f := .glo "JournalProblem") rfl)
 have V_JournalProblem : IsNm K (He.ga K) [("ClaimError", false), ("SyntaxProblem", false), ("ProgramProblem", false), ("PaperProblem", false), ("EditProblem", false), ("Clash", false), ("NoVersion", false), ("JournalProblem", true), ("Full", false), ("NotMergeable", false), ("NotEdited", false)] (.ref ((He.ga K) "JournalProblem")) := isNm (u := (fun K => .ref (He.ga K "JournalProblem"))) (ex_at ce 9 (f := fun K => kit1B K [("ClaimError", false), ("SyntaxProblem", false), ("ProgramProblem", false), ("PaperProblem", false), ("EditProblem", false), ("Clash", false), ("NoVersion", false), ("JournalProblem", true), ("Full", false), ("NotMergeable", false), ("NotEdited", false)] (fun K => .ref (He.ga K "JournalProblem"))) rfl)
 have R0_Clash : ∀ base : Heap, ErrN (PySem.Challenge.rw_carryclaim_k45_errors_of_their_own).prog w K mg base "Clash" 1 ((He.ga K) "Clash") [(Str.ofString "reason")] := fun base => err_Clash (initF X G (c1.fact 13 (f := .glo "Clash") rfl) (c1.fact 19 (f := .free "super") rfl) (c.i 0 (d := ⟨"Clash", "Clash.__init__", i_Clash⟩) rfl) (ex_at ce 10 (f := fun K => supB K "Clash" "Clash.__init__" PySem.Challenge.pw_carryclaim_k45_errors_of_their_own.main.file) rfl) ⟨_, rfl, rfl⟩ rfl) (noat (ex_at ce 11 (f := fun K => noatB K "Clash" (Str.ofString "reason")) rfl))
 have R0_EditProblem : ∀ base : Heap, ErrN (PySem.Challenge.rw_carryclaim_k45_errors_of_their_own).prog w K mg base "EditProblem" 1 ((He.ga K) "EditProblem") [(Str.ofString "reason")] := fun base => err_EditProblem (initF X G (c1.fact 14 (f := .glo "EditProblem") rfl) (c1.fact 19 (f := .free "super") rfl) (c.i 1 (d := ⟨"EditProblem", "EditProblem.__init__", i_EditProblem⟩) rfl) (ex_at ce 12 (f := fun K => supB K "EditProblem" "EditProblem.__init__" PySem.Challenge.pw_carryclaim_k45_errors_of_their_own.main.file) rfl) ⟨_, rfl, rfl⟩ rfl) (noat (ex_at ce 13 (f := fun K => noatB K "EditProblem" (Str.ofString "reason")) rfl))
 have R0_PaperProblem : ∀ base : Heap, ErrN (PySem.Challenge.rw_carryclaim_k45_errors_of_their_own).prog w K mg base "PaperProblem" 1 ((He.ga K) "PaperProblem") [(Str.ofString "line")] := fun base => err_PaperProblem (initF X G (c1.fact 9 (f := .glo "PaperProblem") rfl) (c1.fact 19 (f := .free "super") rfl) (c.i 2 (d := ⟨"PaperProblem", "PaperProblem.__init__", i_PaperProblem⟩) rfl) (ex_at ce 14 (f := fun K => supB K "PaperProblem" "PaperProblem.__init__" PySem.Challenge.pw_carryclaim_k45_errors_of_their_own.main.file) rfl) ⟨_, rfl, rfl⟩ rfl) (noat (ex_at ce 15 (f := fun K => noatB K "PaperProblem" (Str.ofString "line")) rfl))
 have R0_ProgramProblem : ∀ base : Heap, ErrN (PySem.Challenge.rw_carryclaim_k45_errors_of_their_own).prog w K mg base "ProgramProblem" 1 ((He.ga K) "ProgramProblem") [(Str.ofString "reason"), (Str.ofString "where")] := fun base => err_ProgramProblem (initF X G (c1.fact 10 (f := .glo "ProgramProblem") rfl) (c1.fact 19 (f := .free "super") rfl) (c.i 3 (d := ⟨"ProgramProblem", "ProgramProblem.__init__", i_ProgramProblem⟩) rfl) (ex_at ce 16 (f := fun K => supB K "ProgramProblem" "ProgramProblem.__init__" PySem.Challenge.pw_carryclaim_k45_errors_of_their_own.main.file) rfl) ⟨_, rfl, rfl⟩ rfl) (noat (ex_at ce 17 (f := fun K => noatB K "ProgramProblem" (Str.ofString "where")) rfl)) (noat (ex_at ce 18 (f := fun K => noatB K "ProgramProblem" (Str.ofString "reason")) rfl))
 have R0_SyntaxProblem : ∀ base : Heap, ErrN (PySem.Challenge.rw_carryclaim_k45_errors_of_their_own).prog w K mg base "SyntaxProblem" 1 ((He.ga K) "SyntaxProblem") [(Str.ofString "column"), (Str.ofString "line")] := fun base => err_SyntaxProblem (initF X G (c1.fact 11 (f := .glo "SyntaxProblem") rfl) (c1.fact 19 (f := .free "super") rfl) (c.i 4 (d := ⟨"SyntaxProblem", "SyntaxProblem.__init__", i_SyntaxProblem⟩) rfl) (ex_at ce 19 (f := fun K => supB K "SyntaxProblem" "SyntaxProblem.__init__" PySem.Challenge.pw_carryclaim_k45_errors_of_their_own.main.file) rfl) ⟨_, rfl, rfl⟩ rfl) (noat (ex_at ce 20 (f := fun K => noatB K "SyntaxProblem" (Str.ofString "line")) rfl)) (noat (ex_at ce 21 (f := fun K => noatB K "SyntaxProblem" (Str.ofString "column")) rfl))
 have Z_NotEdited : Oex0 K ((He.ga K) "NotEdited") := oex0 (ex_at ce 22 (f := fun K => mk0B K "NotEdited") rfl)
 have Z_NotMergeable : Oex0 K ((He.ga K) "NotMergeable") := oex0 (ex_at ce 23 (f := fun K => mk0B K "NotMergeable") rfl)
 have Z_Full : Oex0 K ((He.ga K) "Full") := oex0 (ex_at ce 24 (f := fun K => mk0B K "Full") rfl)
 have R0_JournalProblem : ∀ base : Heap, ErrN (PySem.Challenge.rw_carryclaim_k45_errors_of_their_own).prog w K mg base "JournalProblem" 1 ((He.ga K) "JournalProblem") [(Str.ofString "position")] := fun base => err_JournalProblem (initF X G (c1.fact 18 (f := .glo "JournalProblem") rfl) (c1.fact 19 (f := .free "super") rfl) (c.i 5 (d := ⟨"JournalProblem", "JournalProblem.__init__", i_JournalProblem⟩) rfl) (ex_at ce 25 (f := fun K => supB K "JournalProblem" "JournalProblem.__init__" PySem.Challenge.pw_carryclaim_k45_errors_of_their_own.main.file) rfl) ⟨_, rfl, rfl⟩ rfl) (noat (ex_at ce 26 (f := fun K => noatB K "JournalProblem" (Str.ofString "position")) rfl))
 have R0_NoVersion : ∀ base : Heap, ErrN (PySem.Challenge.rw_carryclaim_k45_errors_of_their_own).prog w K mg base "NoVersion" 1 ((He.ga K) "NoVersion") [(Str.ofString "version")] := fun base => err_NoVersion (initF X G (c1.fact 12 (f := .glo "NoVersion") rfl) (c1.fact 19 (f := .free "super") rfl) (c.i 6 (d := ⟨"NoVersion", "NoVersion.__init__", i_NoVersion⟩) rfl) (ex_at ce 27 (f := fun K => supB K "NoVersion" "NoVersion.__init__" PySem.Challenge.pw_carryclaim_k45_errors_of_their_own.main.file) rfl) ⟨_, rfl, rfl⟩ rfl) (noat (ex_at ce 28 (f := fun K => noatB K "NoVersion" (Str.ofString "version")) rfl))
 have K_ClaimError : mg "ClaimError" = some (.ref ((He.ga K) "ClaimError")) := He.glo_ok X G (c1.fact 20 (f := .glo "ClaimError") rfl)
 have V_ClaimError : IsNm K (He.ga K) [("ClaimError", true), ("SyntaxProblem", true), ("ProgramProblem", true), ("PaperProblem", true), ("EditProblem", true), ("Clash", true), ("NoVersion", true), ("JournalProblem", true), ("Full", true), ("NotMergeable", true), ("NotEdited", true)] (.ref ((He.ga K) "ClaimError")) := isNm (u := (fun K => .ref (He.ga K "ClaimError"))) (ex_at ce 29 (f := fun K => kit1B K [("ClaimError", true), ("SyntaxProblem", true), ("ProgramProblem", true), ("PaperProblem", true), ("EditProblem", true), ("Clash", true), ("NoVersion", true), ("JournalProblem", true), ("Full", true), ("NotMergeable", true), ("NotEdited", true)] (fun K => .ref (He.ga K "ClaimError"))) rfl)
 have V_ValueError : IsNm K (He.ga K) [("ClaimError", true), ("SyntaxProblem", true), ("ProgramProblem", true), ("PaperProblem", true), ("EditProblem", true), ("Clash", true), ("NoVersion", true), ("JournalProblem", true), ("Full", true), ("NotMergeable", true), ("NotEdited", true)] (.type "ValueError") := isNm (u := (fun K => .type "ValueError")) (ex_at ce 30 (f := fun K => kit1B K [("ClaimError", true), ("SyntaxProblem", true), ("ProgramProblem", true), ("PaperProblem", true), ("EditProblem", true), ("Clash", true), ("NoVersion", true), ("JournalProblem", true), ("Full", true), ("NotMergeable", true), ("NotEdited", true)] (fun K => .type "ValueError")) rfl)
 have XF_SyntaxProblem : XfC K ((He.ga K) "SyntaxProblem") := xfield (ex_at ce 31 (f := fun K => xfieldB K "SyntaxProblem") rfl)
 have XN_SyntaxProblem_column : PySem.W.findIn K (.ref ((He.ga K) "SyntaxProblem")) (Str.ofString "column") = some none := noat (ex_at ce 21 (f := fun K => noatB K "SyntaxProblem" (Str.ofString "column")) rfl)
 have XN_SyntaxProblem_line : PySem.W.findIn K (.ref ((He.ga K) "SyntaxProblem")) (Str.ofString "line") = some none := noat (ex_at ce 20 (f := fun K => noatB K "SyntaxProblem" (Str.ofString "line")) rfl)
 have XF_ProgramProblem : XfC K ((He.ga K) "ProgramProblem") := xfield (ex_at ce 32 (f := fun K => xfieldB K "ProgramProblem") rfl)
 have XN_ProgramProblem_reason : PySem.W.findIn K (.ref ((He.ga K) "ProgramProblem")) (Str.ofString "reason") = some none := noat (ex_at ce 18 (f := fun K => noatB K "ProgramProblem" (Str.ofString "reason")) rfl)
 have XN_ProgramProblem_where : PySem.W.findIn K (.ref ((He.ga K) "ProgramProblem")) (Str.ofString "where") = some none := noat (ex_at ce 17 (f := fun K => noatB K "ProgramProblem" (Str.ofString "where")) rfl)
 have XF_Clash : XfC K ((He.ga K) "Clash") := xfield (ex_at ce 33 (f := fun K => xfieldB K "Clash") rfl)
 have XN_Clash_reason : PySem.W.findIn K (.ref ((He.ga K) "Clash")) (Str.ofString "reason") = some none := noat (ex_at ce 11 (f := fun K => noatB K "Clash" (Str.ofString "reason")) rfl)
 have XF_EditProblem : XfC K ((He.ga K) "EditProblem") := xfield (ex_at ce 34 (f := fun K => xfieldB K "EditProblem") rfl)
 have XN_EditProblem_reason : PySem.W.findIn K (.ref ((He.ga K) "EditProblem")) (Str.ofString "reason") = some none := noat (ex_at ce 13 (f := fun K => noatB K "EditProblem" (Str.ofString "reason")) rfl)
 have XF_PaperProblem : XfC K ((He.ga K) "PaperProblem") := xfield (ex_at ce 35 (f := fun K => xfieldB K "PaperProblem") rfl)
 have XN_PaperProblem_line : PySem.W.findIn K (.ref ((He.ga K) "PaperProblem")) (Str.ofString "line") = some none := noat (ex_at ce 15 (f := fun K => noatB K "PaperProblem" (Str.ofString "line")) rfl)
 have XF_JournalProblem : XfC K ((He.ga K) "JournalProblem") := xfield (ex_at ce 36 (f := fun K => xfieldB K "JournalProblem") rfl)
 have XN_JournalProblem_position : PySem.W.findIn K (.ref ((He.ga K) "JournalProblem")) (Str.ofString "position") = some none := noat (ex_at ce 26 (f := fun K => noatB K "JournalProblem" (Str.ofString "position")) rfl)
 have XF_NoVersion : XfC K ((He.ga K) "NoVersion") := xfield (ex_at ce 37 (f := fun K => xfieldB K "NoVersion") rfl)
 have XN_NoVersion_version : PySem.W.findIn K (.ref ((He.ga K) "NoVersion")) (Str.ofString "version") = some none := noat (ex_at ce 28 (f := fun K => noatB K "NoVersion" (Str.ofString "version")) rfl)
 have Z_ClaimError : Oex0 K ((He.ga K) "ClaimError") := oex0 (ex_at ce 38 (f := fun K => mk0B K "ClaimError") rfl)
 exact all_hd hfa F__law_next F__law_kinds F_law m_int m_len m_abs m_isinstance m_range m_ValueError K_PaperProblem V_PaperProblem K_ProgramProblem V_ProgramProblem K_SyntaxProblem V_SyntaxProblem K_NoVersion V_NoVersion K_Clash V_Clash K_EditProblem V_EditProblem K_NotEdited V_NotEdited K_NotMergeable V_NotMergeable K_Full V_Full K_JournalProblem V_JournalProblem R0_Clash R0_EditProblem R0_PaperProblem R0_ProgramProblem R0_SyntaxProblem Z_NotEdited Z_NotMergeable Z_Full R0_JournalProblem R0_NoVersion K_ClaimError V_ClaimError V_ValueError XF_SyntaxProblem XN_SyntaxProblem_column XN_SyntaxProblem_line XF_ProgramProblem XN_ProgramProblem_reason XN_ProgramProblem_where XF_Clash XN_Clash_reason XF_EditProblem XN_EditProblem_reason XF_PaperProblem XN_PaperProblem_line XF_JournalProblem XN_JournalProblem_position XF_NoVersion XN_NoVersion_version Z_ClaimError
theorem walk (h : ∀ (cx : Str → Addr) (ns : List Int), ns.length ≤ 63 → ∃ M, (Φ_law cx) [.rol (ns.map .int)] [] = .ok (.bl true) M) : PySem.W.WalkO V names (PySem.W.XL V []) hk.says R.toRowW (HandSHeadRun.topDef R.prog 15) [] (fun f vs => PySem.call f vs) := by
 refine L2.walk_ofE (l := PySem.Challenge.rw_carryclaim_k45_errors_of_their_own) (n := 63) (k := 3) (x := "script") (CX := CX0) rfl (by decide) (by kernel_rfl) ⟨rfl, by decide, by decide⟩ ?F (fun _ _ _ _ z => z)
 intro w mg fa h1 Y Gg hmg0
 obtain ⟨K, KX, c⟩ := Y
 have hmg : mg ("law" : PySem.Str) = some (.ref fa) := by
  have e : (HandSHeadRun.topDef R.prog 15).name = ("law" : PySem.Str) := by kernel_rfl
  rw [← e]
  exact hmg0
 obtain ⟨fd, hb, hF⟩ := facts KX Gg hmg c
 exact ⟨K, fd, spP K (Φ_law (He.ga K)), KX, hb, fun H a ns hl _ hS => law_sp hS (h (He.ga K) ns hl), hF⟩
end Hd
open PySem PySem.W PyProof.Rows
set_option maxRecDepth 100000 in
set_option maxHeartbeats 0 in
theorem PySem.Challenge.cw_carryclaim_k45_errors_of_their_own_holds : PySem.Challenge.rw_carryclaim_k45_errors_of_their_own.Holds := by
 exact Hd.fin (Hd.walk M.law_true)
