import PyProof.Rows.All
import Wide.All
import OpenK.AllK
import Wide.FinOn
import HandS.More
import HandS.Head0
import HandS.Head1
import HandS.Head2
import HandS.HeadEnd
import HandS.HeadHook1
import HandS.HeadHook2
import HandS.HeadHook3
import HandS.Lambda
import KE.KNest
import HandS.ForMost
import HandS.TupAny
import HandS.IsInst
import PyProof.TupleKey
import PyProof.DictKeyH
import PyProof.DictRoadsH
import HandS.Dict
import PyProof.Rows.StrIntSpec
import PyProof.StrBlock2
import PyProof.FString3
import PyProof.FactsAll.str_1
import HandS.FStr
import HandS.Text
import HandS.StrMore
import KE.SortData
import KE.DataMinMax
import KE.KExcSuper
import HandS.ExcInit
import HandS.ExcOwn
import HandS.WordsExc
import HandS.Nested
import HandS.ExcCtx
import HandS.HotCalls
import HandS.ExcInitHot
import HandS.NoneIn
import HandS.ExcField
import HandS.ExcIs
import HandS.GenList
import HandS.Property
import HandS.ClsMeth
import HandS.Deep
import HandS.Iter
import KE.GoesNew
import HandS.Walk
import PyProof.AutoSeq1
import HandS.Defaults
import KE.KIsAll
import KE.KTryMore
import HandS.Style
import PyProof.Rows.TmSorted
import HandS.SortKw
import KE.KLam
import KE.DataMinKey
import HandS.ReplaceLit
import HandS.Star
import HandS.SlotsOwn
import HandS.OwnIter
import PyProof.StrLawsIn
import HandS.IterVal
import HandS.Set
import HandS.Zip
import PyProof.Rows.SortShellAny
import HandS.SetFor
import HandS.DictComp
import HandS.Base
import HandS.List
import PyProof.SeqIndex
import KE.DataFind
import HandS.Conv
import KE.KStateDown
import PyProof.TupleOfSeq
import HandS.HeadNt
import HandS.TupLen
import PySem.Challenge.RW_quickways_k24_picks_of_both_ways
import HandS.HeadWalk
section
set_option Elab.async false
set_option linter.all false
set_option maxRecDepth 100000
set_option maxHeartbeats 4000000
namespace Ip
open PySem L2 PySem.W He
/-- the code object of the def of this name -/
def lmC (K : Frag) (x : Str) : Addr := match K.lookup (ga K x) with
  | some ⟨_, _, .func fd, _⟩ => (match fd.code with
    | .ref c => c
    | _ => 0)
  | _ => 0
/-- its table -/
def lmP (K : Frag) (x : Str) : Addr := match K.lookup (lmC K x) with
  | some ⟨_, _, .fields vs, _⟩ => (match vs.getD 11 Value.none with
    | .ref P => P
    | _ => 0)
  | _ => 0
def vlS : Value → Bool
  | .str _ _ => true
  | _ => false
def vlI : Value → Bool
  | .int _ _ => true
  | _ => false
def vlB : Value → Bool
  | .bool _ => true
  | _ => false
def refIs (v : Value) (a : Addr) : Bool := match v with
  | .ref b => decide (b = a)
  | _ => false
/-- what a lambda's making asks of the maker's code object -/
def lmB (K : Frag) (x : Str) : Bool := (match K.lookup (ga K x) with
  | some ⟨_, _, .func fd, _⟩ => refIs fd.code (lmC K x)
  | _ => false) && ((match K.lookup (lmC K x) with
  | some ⟨.type cn, _, .fields vs, _⟩ => decide (cn = "code") && (refIs (vs.getD 11 .none) (lmP K x) && (decide (11 < vs.size) && (vlS (vs.getD 18 .none) && (vlI (vs.getD 7 .none) && (vlB (vs.getD 9 .none) && vlI (vs.getD 10 .none))))))
  | _ => false) && ((K.lookup (lmP K x)).isNone && decide (lmC K x ≠ lmP K x)))
/-- an empty table -/
def emT : Option Obj → Bool
  | some ⟨.none, none, .fields vs, sl⟩ => vs.isEmpty && sl.isEmpty
  | _ => false
theorem emT_ok {o : Option Obj} (h : emT o = true) : o = some { cls := .none, data := .fields #[] } := by
  unfold emT at h
  split at h
  · rw [Bool.and_eq_true] at h
    rw [Array.isEmpty_iff.mp h.1, Array.isEmpty_iff.mp h.2]
  · cases h
end Ip

set_option Elab.async false
set_option linter.all false
namespace Ip
open PySem
def lmNs : List (Str × Str) := []
/-- the own classes whose instances are data -/
def obNs : List Str := ["WovenTasks", "WaitTasks"]
def tabK (K : PySem.W.Frag) : List (Addr × Str) := lmNs.map fun q => (lmP K q.1, (q.1 ++ ".<locals>.") ++ q.2)
/-- two tables at one place are the same -/
def tabU (K : PySem.W.Frag) : Bool := (tabK K).all fun a => (tabK K).all fun b => !decide (a.1 = b.1) || decide (a.2 = b.2)
end Ip

set_option Elab.async false
set_option linter.all false
set_option maxRecDepth 100000
set_option maxHeartbeats 4000000

set_option Elab.async false
set_option linter.all false
set_option maxRecDepth 100000
set_option maxHeartbeats 4000000

set_option Elab.async false
set_option linter.all false
set_option maxRecDepth 100000
set_option maxHeartbeats 4000000

set_option Elab.async false
set_option linter.all false
set_option maxRecDepth 100000
set_option maxHeartbeats 4000000

set_option Elab.async false
set_option linter.all false
set_option maxRecDepth 100000
set_option maxHeartbeats 4000000

set_option Elab.async false
set_option linter.all false
set_option maxRecDepth 100000
set_option maxHeartbeats 4000000

set_option Elab.async false
set_option linter.all false
set_option maxRecDepth 100000
set_option maxHeartbeats 4000000

set_option Elab.async false
set_option linter.all false
set_option maxRecDepth 100000
set_option maxHeartbeats 4000000

set_option Elab.async false
set_option linter.all false
set_option maxRecDepth 100000
set_option maxHeartbeats 4000000

set_option Elab.async false
set_option linter.all false
set_option maxRecDepth 100000
set_option maxHeartbeats 4000000

set_option Elab.async false
set_option linter.all false
set_option maxRecDepth 100000
set_option maxHeartbeats 4000000

set_option Elab.async false
set_option linter.all false
set_option maxRecDepth 100000
set_option maxHeartbeats 4000000

set_option Elab.async false
set_option linter.all false
set_option maxRecDepth 100000
set_option maxHeartbeats 4000000

set_option Elab.async false
set_option linter.all false
set_option maxRecDepth 100000
set_option maxHeartbeats 4000000

set_option Elab.async false
set_option linter.all false
set_option maxRecDepth 100000
set_option maxHeartbeats 4000000

set_option Elab.async false
set_option linter.all false
set_option maxRecDepth 100000
set_option maxHeartbeats 4000000

set_option Elab.async false
set_option linter.all false
set_option maxRecDepth 100000
set_option maxHeartbeats 4000000

set_option Elab.async false
set_option linter.all false
set_option maxRecDepth 100000
set_option maxHeartbeats 4000000

set_option Elab.async false
set_option linter.all false
set_option maxRecDepth 100000
set_option maxHeartbeats 4000000

set_option Elab.async false
set_option linter.all false
set_option maxRecDepth 100000
set_option maxHeartbeats 4000000

set_option Elab.async false
set_option linter.all false
set_option maxRecDepth 100000
set_option maxHeartbeats 4000000
namespace Ip
open PySem L2 PySem.W NdefX He
abbrev nmI : Str := "__init__"
def errF (K : PySem.W.Frag) (x : Str) : Addr := ma K (ga K x) nmI
def errFd (K : PySem.W.Frag) (x : Str) : Option FuncData := match K.lookup (errF K x) with
  | some o => (match o.data with
    | .func fd => some fd
    | _ => none)
  | none => none
def errCl (K : PySem.W.Frag) (x : Str) : List (Str × Addr) := match errFd K x with
  | some fd => fd.closure
  | none => []
def errCd (K : PySem.W.Frag) (x : Str) : Addr := match errFd K x with
  | some fd => (match fd.code with
    | .ref c => c
    | _ => 0)
  | none => 0
def errCc (K : PySem.W.Frag) (x : Str) : Addr := match errCl K x with
  | [(_, c)] => c
  | _ => 0
abbrev ErrW : Type := Option (Str × Str × Arguments × FuncBody × Scope)
def errW (K : PySem.W.Frag) (x : Str) : ErrW := (errFd K x).map fun fd => (fd.name, fd.qualname, fd.params, fd.body, fd.scope)
def fileB (P : Program) (K : PySem.W.Frag) (c : Addr) : Bool := match K.lookup c with
  | some o => (match o.data with
    | .fields vs => (match (vs[2]? : Option Value) with
      | some (Value.str file _) => (P.main.file : Str) == file
      | _ => false)
    | _ => false)
  | none => false
def cellB (K : PySem.W.Frag) (c C : Addr) : Bool := match K.lookup c with
  | some o => (match o.data with
    | .cell (some (.ref D)) => D == C
    | _ => false)
  | none => false
def oexB (K : PySem.W.Frag) (C : Addr) : Bool := match K.lookup C with
  | some o => (match o.data with
    | .cls cd => decide (o.cls = .type "type") && (!cd.hasDel && (cd.hasDict && (match cd.mro with
      | .ref C2 :: bm => C2 == C && PySem.HandSPX.refsVE bm
      | _ => false) && (match o.slots.toList with
      | [_, _, _, _, some (.builtin n), _] => n == "ValueError.__new__"
      | _ => false)))
    | _ => false)
  | none => false
def errB (P : Program) (K : PySem.W.Frag) (x fld : Str) : Bool := (match errFd K x with
  | some fd => decide (fd.closure = [(("__class__" : Str), errCc K x)]) && (decide (fd.code = .ref (errCd K x)) && (decide (fd.defaults = .none) && (decide (fd.kwdefaults = .none) && (decide (fd.annotations = none)
    && (decide (fd.globals = mainGlobals) && (decide (fd.builtins = builtinsNs) && codeIn K (.ref (errCd K x)) fd.qualname))))))
  | none => false) && (fileB P K (errCd K x) && (cellB K (errCc K x) (ga K x) && (oexB K (ga K x) && (eqO (nsIn K cStatics "thirdparty.any") (some none) && ((clsIn K (ga K x)).isSome
    && (decide (mroIn K (ga K x) (.ref (ga K x)) = some true) && (eqO (findIn K (.ref (ga K x)) "__setattr__") (some (some (.builtin "object.__setattr__"))) && (decide (subIn K (.ref (ga K x)) (.type "BaseException") = some true)
    && (decide (typeIn K (.ref (ga K x)) = some (.type "type")) && (keepIn K (.ref (ga K x)) && (eqO (ks_superIn K (ga K x) (ga K x) nmI) (some (some (.builtin "ValueError.__init__")))
    && (decide (subIn K (.ref (ga K x)) (.type "ValueError") = some true) && (eqO (findIn K (.ref (ga K x)) fld) (some none) && (eqO (findIn K (.ref (ga K x)) nmI) (some (some (.ref (errF K x)))) && decide (typeIn K (.ref (errF K x)) = some (.type "function"))))))))))))))))
/-- an own error of one field: its name, its field, its __init__'s text -/
structure ErrD where
  x : Str
  fld : Str
  name : Str
  qual : Str
  params : Arguments
  body : List Stmt
  scope : Scope
def ErrD.val (d : ErrD) : ErrW := some (d.name, d.qual, d.params, .stmts d.body, d.scope)
end Ip

set_option Elab.async false
set_option linter.all false
set_option maxRecDepth 100000
set_option maxHeartbeats 4000000
namespace Ip
open PySem L2 PySem.W He
def asE (g : Addr → Option Obj) : Nat → List Addr
  | 0 => [mainGlobals, cStatics]
  | n + 1 => growD g (asE g n)
abbrev AlE : Type := AlD × (Bool × List ErrW)
def obsE (P : Program) (fa : List Fa) (fn : List DefD) (er : List ErrD) (K : PySem.W.Frag) : AlE := (obsD fa fn K, er.all (fun d => errB P K d.x d.fld), er.map fun d => errW K d.x)
def valE (fn : List DefD) (er : List ErrD) : AlE := (valD fn, true, er.map ErrD.val)
end Ip

set_option Elab.async false
set_option linter.all false
set_option maxRecDepth 100000
set_option maxHeartbeats 4000000

set_option Elab.async false
set_option linter.all false
set_option maxRecDepth 100000
set_option maxHeartbeats 4000000

set_option Elab.async false
set_option linter.all false
set_option maxRecDepth 100000
set_option maxHeartbeats 4000000

set_option Elab.async false
set_option linter.all false
set_option maxRecDepth 100000
set_option maxHeartbeats 4000000

set_option Elab.async false
set_option linter.all false
set_option maxRecDepth 100000
set_option maxHeartbeats 4000000

set_option Elab.async false
set_option linter.all false
set_option maxRecDepth 100000
set_option maxHeartbeats 4000000

set_option Elab.async false
set_option linter.all false
set_option maxRecDepth 100000
set_option maxHeartbeats 4000000

set_option Elab.async false
set_option linter.all false
set_option maxRecDepth 100000
set_option maxHeartbeats 4000000

set_option Elab.async false
set_option linter.all false
set_option maxRecDepth 100000
set_option maxHeartbeats 4000000

set_option Elab.async false
set_option linter.all false
set_option maxRecDepth 100000
set_option maxHeartbeats 4000000

set_option Elab.async false
set_option linter.all false
set_option maxRecDepth 100000
set_option maxHeartbeats 4000000

set_option Elab.async false
set_option linter.all false
set_option maxRecDepth 100000
set_option maxHeartbeats 4000000
namespace Ip
open PySem L2 PySem.W He NdefX
abbrev AlF : Type := AlE × Bool
def obsF (P : Program) (fa : List Fa) (fn : List DefD) (er : List ErrD) (ex : Frag → Bool) (K : Frag) : AlF := (obsE P fa fn er K, ex K)
def valF (fn : List DefD) (er : List ErrD) : AlF := (valE fn er, true)
def excB (K : Frag) (D : Addr) : Bool := eqO (findIn K (.ref D) "__getattribute__") (some (some (.builtin "BaseException.__getattribute__"))) && (eqO (findIn K (.ref D) "__getattr__") (some none) && (decide (subIn K (.ref D) (.type "BaseException") = some true) && (hasDictIn K D
  && (eqO (findIn K (.ref D) "__class__") (some (some (.builtin "object.__class__"))) && (eqO (specialIn K (.builtin "object.__class__") "__get__") (some (some (.builtin "getset_descriptor.__get__"))) && (decide (takesIn K (.builtin "object.__class__") = some true) && decide (mroIn K D (.type "object") = some true)))))))
def clB (K : Frag) (es : List (Str × Str)) : Bool := es.all fun q => xfB K (ga K q.1) && (excB K (ga K q.1) && eqO (findIn K (.ref (ga K q.1)) q.2) (some none))
/-- the names of built-in classes -/
def clsV (K : Frag) (bn : List (Str × String)) (x : Str) : Value := match bn.lookup x with
  | some n => .type n
  | none => .ref (ga K x)
def kiB (K : Frag) (bn : List (Str × String)) (ks : List (Str × Str × Bool)) : Bool := ks.all fun q => decide (kitOne K (.ref (ga K q.1)) (clsV K bn q.2.1) = some q.2.2)
def trB (K : Frag) (ts : List (Str × Str × Bool)) : Bool := ts.all fun q => decide (exmOne K (.ref (ga K q.1)) (.ref (ga K q.2.1)) = some q.2.2)
def errsB (bn : List (Str × String)) (es : List (Str × Str)) (ks ts : List (Str × Str × Bool)) (K : Frag) : Bool := clB K es && (kiB K bn ks && trB K ts)
end Ip

set_option Elab.async false
set_option linter.all false
set_option maxRecDepth 100000
set_option maxHeartbeats 4000000

set_option Elab.async false
set_option linter.all false
set_option maxRecDepth 100000
set_option maxHeartbeats 4000000

set_option Elab.async false
set_option linter.all false
set_option maxRecDepth 100000
set_option maxHeartbeats 4000000

set_option Elab.async false
set_option linter.all false
set_option maxRecDepth 100000
set_option maxHeartbeats 4000000

set_option Elab.async false
set_option linter.all false
set_option maxRecDepth 100000
set_option maxHeartbeats 4000000

set_option Elab.async false
set_option linter.all false
set_option maxRecDepth 100000
set_option maxHeartbeats 4000000

set_option Elab.async false
set_option linter.all false
set_option maxRecDepth 100000
set_option maxHeartbeats 4000000

set_option Elab.async false
set_option linter.all false
set_option maxRecDepth 100000
set_option maxHeartbeats 4000000

set_option Elab.async false
set_option linter.all false
set_option maxRecDepth 100000
set_option maxHeartbeats 4000000

set_option Elab.async false
set_option linter.all false
set_option maxRecDepth 100000
set_option maxHeartbeats 4000000

set_option Elab.async false
set_option linter.all false
set_option maxRecDepth 100000
set_option maxHeartbeats 4000000

set_option Elab.async false
set_option linter.all false
set_option maxRecDepth 100000
set_option maxHeartbeats 4000000

set_option Elab.async false
set_option linter.all false
set_option maxRecDepth 100000
set_option maxHeartbeats 4000000

set_option Elab.async false
set_option linter.all false
set_option maxRecDepth 100000
set_option maxHeartbeats 4000000

set_option Elab.async false
set_option linter.all false
set_option maxRecDepth 100000
set_option maxHeartbeats 4000000

set_option Elab.async false
set_option linter.all false
set_option maxRecDepth 100000
set_option maxHeartbeats 4000000

set_option Elab.async false
set_option linter.all false
set_option maxRecDepth 100000
set_option maxHeartbeats 4000000

set_option Elab.async false
set_option linter.all false
set_option maxRecDepth 100000
set_option maxHeartbeats 4000000

set_option Elab.async false
set_option linter.all false
set_option maxRecDepth 100000
set_option maxHeartbeats 4000000

set_option Elab.async false
set_option linter.all false
set_option maxRecDepth 100000
set_option maxHeartbeats 4000000

set_option Elab.async false
set_option linter.all false
set_option maxRecDepth 100000
set_option maxHeartbeats 4000000

set_option Elab.async false
set_option linter.all false
set_option maxRecDepth 100000
set_option maxHeartbeats 4000000

set_option Elab.async false
set_option linter.all false
set_option maxRecDepth 100000
set_option maxHeartbeats 4000000

set_option Elab.async false
set_option linter.all false
set_option maxRecDepth 100000
set_option maxHeartbeats 4000000

set_option Elab.async false
set_option linter.all false
set_option maxRecDepth 100000
set_option maxHeartbeats 4000000

set_option Elab.async false
set_option linter.all false
set_option maxRecDepth 100000
set_option maxHeartbeats 4000000

set_option Elab.async false
set_option linter.all false
set_option maxRecDepth 100000
set_option maxHeartbeats 4000000

set_option Elab.async false
set_option linter.all false
set_option maxRecDepth 100000
set_option maxHeartbeats 4000000

set_option Elab.async false
set_option linter.all false
set_option maxRecDepth 100000
set_option maxHeartbeats 4000000
namespace Ip
open PySem L2 PySem.W He NdefX
abbrev AlU : Type := (AlF × List (Option (List (Option (Str × Int))))) × Bool
def obsU (P : Program) (fa : List Fa) (fn : List DefD) (er : List ErrD) (ex : Frag → Bool) (ts : List Tab) (K : Frag) : AlF × List (Option (List (Option (Str × Int)))) := (obsF P fa fn er ex K, ts.map fun t => dicW K (t.1 K))
def valU (fn : List DefD) (er : List ErrD) (ts : List Tab) (w : World) : AlF × List (Option (List (Option (Str × Int)))) := (valF fn er, ts.map fun t => some (keysIn w.params t.2))
def SaysU (P : Program) (fa : List Fa) (fn : List DefD) (er : List ErrD) (ex : Frag → Bool) (ts : List Tab) (w : World) (K : Frag) : Prop := obsU P fa fn er ex ts K = valU fn er ts w
/-- the tables of the lambdas' makers -/
def tbU (g : Addr → Option Obj) (K : Frag) : Bool := tabU K && lmNs.all fun q => lmB K q.1 && emT (g (lmP K q.1))
/-- what is known of them -/
def TbsAt (K : Frag) (h : Heap) : Prop := tabU K = true ∧ ∀ q ∈ lmNs, lmB K q.1 = true ∧ h.get? (lmP K q.1) = some { cls := .none, data := .fields #[] }
end Ip

set_option Elab.async false
set_option linter.all false
set_option maxRecDepth 100000
set_option maxHeartbeats 4000000

set_option Elab.async false
set_option linter.all false
set_option maxRecDepth 100000
set_option maxHeartbeats 4000000

set_option Elab.async false
set_option linter.all false
set_option maxRecDepth 100000
set_option maxHeartbeats 4000000

set_option Elab.async false
set_option linter.all false
set_option maxRecDepth 100000
set_option maxHeartbeats 4000000

set_option Elab.async false
set_option linter.all false
set_option maxRecDepth 100000
set_option maxHeartbeats 4000000

set_option Elab.async false
set_option linter.all false
set_option maxRecDepth 100000
set_option maxHeartbeats 4000000

set_option Elab.async false
set_option linter.all false
set_option maxRecDepth 100000
set_option maxHeartbeats 4000000

set_option Elab.async false
set_option linter.all false
set_option maxRecDepth 100000
set_option maxHeartbeats 4000000

set_option Elab.async false
set_option linter.all false
set_option maxRecDepth 100000
set_option maxHeartbeats 4000000

set_option Elab.async false
set_option linter.all false
set_option maxRecDepth 100000
set_option maxHeartbeats 4000000

set_option Elab.async false
set_option linter.all false
set_option maxRecDepth 100000
set_option maxHeartbeats 4000000

set_option Elab.async false
set_option linter.all false
set_option maxRecDepth 100000
set_option maxHeartbeats 4000000

set_option Elab.async false
set_option linter.all false
set_option maxRecDepth 100000
set_option maxHeartbeats 4000000

set_option Elab.async false
set_option linter.all false
set_option maxRecDepth 100000
set_option maxHeartbeats 4000000

set_option Elab.async false
set_option linter.all false
set_option maxRecDepth 100000
set_option maxHeartbeats 4000000

set_option Elab.async false
set_option linter.all false
set_option maxRecDepth 100000
set_option maxHeartbeats 4000000
namespace Ip
open PySem PySem.W He NdefX L2
def clfB (K : Frag) (c : Str) (fs : List Str) : Bool := (Fa.cls c).ok K && (eqO (findIn K (.ref (ga K c)) "__class__") (some (some (.builtin "object.__class__"))) && (eqO (specialIn K (.builtin "object.__class__") "__get__") (some (some (.builtin "getset_descriptor.__get__"))) && (decide (takesIn K (.builtin "object.__class__") = some true)
  && (decide (mroIn K (ga K c) (.type "object") = some true) && ((["int", "bool", "str", "list", "tuple"] : List String).all (fun t => decide (kitOne K (.ref (ga K c)) (.type t) = some false)) && ((fs.all fun f => eqO (findIn K (.ref (ga K c)) f) (some none)) && (selfFirst K (ga K c) && (notFirst K (ga K c) (.ref (ga K c)) && (notFirst K (ga K c) (.type "int")
  && (decide (kitOne K (.ref (ga K c)) (.ref (ga K c)) = some true) && ((["NoneType", "int", "bool", "str", "list", "tuple"] : List String).all (fun t => decide (kitOne K (.type t) (.ref (ga K c)) = some false)) && obNs.all fun c' => decide (c' = c) || (decide (kitOne K (.ref (ga K c')) (.ref (ga K c)) = some false) && notFirst K (ga K c) (.ref (ga K c'))))))))))))))
end Ip

set_option Elab.async false
set_option linter.all false
set_option maxRecDepth 100000
set_option maxHeartbeats 4000000

set_option Elab.async false
set_option linter.all false
set_option maxRecDepth 100000
set_option maxHeartbeats 4000000

set_option Elab.async false
set_option linter.all false
set_option maxRecDepth 100000
set_option maxHeartbeats 4000000

set_option Elab.async false
set_option linter.all false
set_option maxRecDepth 100000
set_option maxHeartbeats 4000000

set_option Elab.async false
set_option linter.all false
set_option maxRecDepth 100000
set_option maxHeartbeats 4000000

set_option Elab.async false
set_option linter.all false
set_option maxRecDepth 100000
set_option maxHeartbeats 4000000

set_option Elab.async false
set_option linter.all false
set_option maxRecDepth 100000
set_option maxHeartbeats 4000000

set_option Elab.async false
set_option linter.all false
set_option maxRecDepth 100000
set_option maxHeartbeats 4000000

set_option Elab.async false
set_option linter.all false
set_option maxRecDepth 100000
set_option maxHeartbeats 4000000

set_option Elab.async false
set_option linter.all false
set_option maxRecDepth 100000
set_option maxHeartbeats 4000000

set_option Elab.async false
set_option linter.all false
set_option maxRecDepth 100000
set_option maxHeartbeats 4000000

set_option Elab.async false
set_option linter.all false
set_option maxRecDepth 100000
set_option maxHeartbeats 4000000

set_option Elab.async false
set_option linter.all false
set_option maxRecDepth 100000
set_option maxHeartbeats 4000000

set_option Elab.async false
set_option linter.all false
set_option maxRecDepth 100000
set_option maxHeartbeats 4000000

set_option Elab.async false
set_option linter.all false
set_option maxRecDepth 100000
set_option maxHeartbeats 4000000

set_option Elab.async false
set_option linter.all false
set_option maxRecDepth 100000
set_option maxHeartbeats 4000000

set_option Elab.async false
set_option linter.all false
set_option maxRecDepth 100000
set_option maxHeartbeats 4000000

set_option Elab.async false
set_option linter.all false
set_option maxRecDepth 100000
set_option maxHeartbeats 4000000

set_option Elab.async false
set_option linter.all false
set_option maxRecDepth 100000
set_option maxHeartbeats 4000000

set_option Elab.async false
set_option linter.all false
set_option maxRecDepth 100000
set_option maxHeartbeats 4000000
namespace Ip
open PySem PySem.W He NdefX L2
abbrev AlX : Type := AlU × He.AlD
def obsX (fx : List He5.DefA) (K : Frag) : He.AlD := (fx.all fun d => d.ok K, fx.map fun d => He5.fnA K (d.at_ K))
def valX (fx : List He5.DefA) : He.AlD := (true, fx.map He5.DefA.val)
def asX (g : Addr → Option Obj) (n : Nat) : List Addr := (asE g n ++ [cStatics]).filter fun a => !emT (g a)
def SaysX (P : Program) (fa : List Fa) (fn : List DefD) (er : List ErrD) (ex : Frag → Bool) (ts : List Tab) (fx : List He5.DefA) (w : World) (K : Frag) : Prop := SaysU P fa fn er ex ts w K ∧ obsX fx K = valX fx
def obsXG (n : Nat) (P : Program) (fa : List Fa) (fn : List DefD) (er : List ErrD) (ex : Frag → Bool) (ts : List Tab) (fx : List He5.DefA) (g : Addr → Option Obj) : AlX := ((obsU P fa fn er ex ts (frG g (asX g n)), tbU g (frG g (asX g n))), obsX fx (frG g (asX g n)))
def hookX (n : Nat) (P : Program) (fa : List Fa) (fn : List DefD) (er : List ErrD) (ex : Frag → Bool) (ts : List Tab) (fx : List He5.DefA) : PySem.W.Hook where
  α := AlX
  obs := fun s => obsXG n P fa fn er ex ts fx s.heap.get?
  val := fun w => ((valU fn er ts w, true), valX fx)
  says := fun w h => ∃ K : Frag, K.In h ∧ SaysX P fa fn er ex ts fx w K ∧ TbsAt K h
  of := fun w s e => by
    have e0 : (obsU P fa fn er ex ts (frG s.heap.get? (asX s.heap.get? n)), tbU s.heap.get? (frG s.heap.get? (asX s.heap.get? n))) = (valU fn er ts w, true) := congrArg (fun z : AlX => z.1) e
    have e1 : obsU P fa fn er ex ts (frG s.heap.get? (asX s.heap.get? n)) = valU fn er ts w := congrArg (fun z : AlU => z.1) e0
    have e2 : tbU s.heap.get? (frG s.heap.get? (asX s.heap.get? n)) = true := congrArg (fun z : AlU => z.2) e0
    have e3 : obsX fx (frG s.heap.get? (asX s.heap.get? n)) = valX fx := congrArg (fun z : AlX => z.2) e
    unfold tbU at e2
    rw [Bool.and_eq_true] at e2
    exact ⟨_, frG_in, ⟨e1, e3⟩, e2.1, fun q hq => by
      have z := List.all_eq_true.mp e2.2 q hq
      rw [Bool.and_eq_true] at z
      exact ⟨z.1, emT_ok z.2⟩⟩
  keeps := fun _ _ _ q k => q.elim fun K q => ⟨K, PySem.W.Frag.In.keeps q.1 k, q.2.1, q.2.2.1, fun p hp => ⟨(q.2.2.2 p hp).1, k _ _ (q.2.2.2 p hp).2⟩⟩
def nwB (K : Frag) (c : Str) : Bool := makesIn K (ga K c) && (eqO (findIn K (.ref (ga K c)) "__init__") (some (some (.builtin "object.__init__"))) && keepIn K (.ref (ga K c)))
end Ip

set_option Elab.async false
set_option linter.all false
set_option maxRecDepth 100000
set_option maxHeartbeats 4000000

set_option Elab.async false
set_option linter.all false
set_option maxRecDepth 100000
set_option maxHeartbeats 4000000

set_option Elab.async false
set_option linter.all false
set_option maxRecDepth 100000
set_option maxHeartbeats 4000000
namespace K24
open PySem L2 Ip
def top (i : Nat) : Stmt := PySem.Challenge.pw_quickways_k24_picks_of_both_ways.main.body.getD i (.Pass ⟨0, 0, 0, 0⟩)
abbrev es : List (Str × Str) := []
abbrev ks : List (Str × Str × Bool) := []
abbrev ts : List (Str × Str × Bool) := []
def cbody : Stmt → List Stmt
  | .ClassDef (body := b) .. => b
  | _ => []
def meth (i j : Nat) : Stmt := (cbody (top i)).getD j (.Pass ⟨0, 0, 0, 0⟩)
end K24

set_option Elab.async false
set_option linter.all false
set_option maxRecDepth 100000
set_option maxHeartbeats 4000000

set_option Elab.async false
set_option linter.all false
set_option maxRecDepth 100000
set_option maxHeartbeats 4000000

set_option Elab.async false
set_option linter.all false
set_option maxRecDepth 100000
set_option maxHeartbeats 4000000

set_option Elab.async false
set_option linter.all false
set_option maxRecDepth 100000
set_option maxHeartbeats 4000000

set_option Elab.async false
set_option linter.all false
set_option maxRecDepth 100000
set_option maxHeartbeats 4000000

set_option Elab.async false
set_option linter.all false
set_option maxRecDepth 100000
set_option maxHeartbeats 4000000

set_option Elab.async false
set_option linter.all false
set_option maxRecDepth 100000
set_option maxHeartbeats 4000000

set_option Elab.async false
set_option linter.all false
set_option maxRecDepth 100000
set_option maxHeartbeats 4000000

set_option Elab.async false
set_option linter.all false
set_option maxRecDepth 100000
set_option maxHeartbeats 4000000

set_option Elab.async false
set_option linter.all false
set_option maxRecDepth 100000
set_option maxHeartbeats 4000000

set_option Elab.async false
set_option linter.all false
set_option maxRecDepth 100000
set_option maxHeartbeats 0
namespace K24
open PySem PySem.Spec PyProof.Rows L2 Ip
def dd_pick_at : He.DefD := ⟨("pick_at", none), "pick_at", "pick_at", defArgs (top 1), defBody (top 1), defScope (top 1), [], []⟩
def dd_law_mixed : He.DefD := ⟨("_law_mixed", none), "_law_mixed", "_law_mixed", defArgs (top 7), defBody (top 7), defScope (top 7), [], []⟩
def dd_law_draw : He.DefD := ⟨("_law_draw", none), "_law_draw", "_law_draw", defArgs (top 8), defBody (top 8), defScope (top 8), [], []⟩
def dd_law_is_int : He.DefD := ⟨("_law_is_int", none), "_law_is_int", "_law_is_int", defArgs (top 9), defBody (top 9), defScope (top 9), [], []⟩
def dd_law_same : He.DefD := ⟨("_law_same", none), "_law_same", "_law_same", defArgs (top 10), defBody (top 10), defScope (top 10), [], []⟩
def dd_law_numbers : He.DefD := ⟨("_law_numbers", none), "_law_numbers", "_law_numbers", defArgs (top 11), defBody (top 11), defScope (top 11), [], []⟩
def dd_law_tasks : He.DefD := ⟨("_law_tasks", none), "_law_tasks", "_law_tasks", defArgs (top 12), defBody (top 12), defScope (top 12), [], []⟩
def dd_law_waits : He.DefD := ⟨("_law_waits", none), "_law_waits", "_law_waits", defArgs (top 13), defBody (top 13), defScope (top 13), [], []⟩
def dd_law_chosen : He.DefD := ⟨("_law_chosen", none), "_law_chosen", "_law_chosen", defArgs (top 14), defBody (top 14), defScope (top 14), [], []⟩
def dd_law_picked : He.DefD := ⟨("_law_picked", none), "_law_picked", "_law_picked", defArgs (top 15), defBody (top 15), defScope (top 15), [], []⟩
def dd_law_pool : He.DefD := ⟨("_law_pool", none), "_law_pool", "_law_pool", defArgs (top 6), defBody (top 6), defScope (top 6), [], []⟩
def dd_law : He.DefD := ⟨("law", none), "law", "law", defArgs (top 16), defBody (top 16), defScope (top 16), [], []⟩
def fxE : List He5.DefA := []
def dm_WovenTasks_pick : He.DefD := ⟨("WovenTasks", some "pick"), "pick", "WovenTasks.pick", defArgs (meth 3 1), defBody (meth 3 1), defScope (meth 3 1), [], []⟩
def dm_WaitTasks_pick : He.DefD := ⟨("WaitTasks", some "pick"), "pick", "WaitTasks.pick", defArgs (meth 4 0), defBody (meth 4 0), defScope (meth 4 0), [], []⟩
def dm_WovenTasks : He.DefD := ⟨("WovenTasks", some "__init__"), "__init__", "WovenTasks.__init__", defArgs (meth 3 0), defBody (meth 3 0), defScope (meth 3 0), [], []⟩
def fn : List He.DefD := [dd_pick_at, dd_law_mixed, dd_law_draw, dd_law_is_int, dd_law_same, dd_law_numbers, dd_law_tasks, dd_law_waits, dd_law_chosen, dd_law_picked, dd_law_pool, dd_law, dm_WovenTasks_pick, dm_WaitTasks_pick, dm_WovenTasks]
def fa : List He.Fa := [.glo "pick_at", .glo "_law_mixed", .glo "_law_draw", .glo "_law_is_int", .glo "_law_same", .glo "_law_numbers", .glo "_law_tasks", .glo "_law_waits", .glo "_law_chosen", .glo "_law_picked", .glo "_law_pool", .glo "law", .free "all", .free "bool", .free "int", .free "isinstance", .free "len", .free "list", .free "max", .free "range", .free "sorted", .free "str", .free "super", .free "tuple", .glo "WovenTasks", .glo "WaitTasks", .meth "WovenTasks" "pick", .meth "WaitTasks" "pick", .mkr "WovenTasks"]
def tbs : List He.Tab := []
def er : List ErrD := []
abbrev bn : List (Str × String) := []
def ex (K : PySem.W.Frag) : Bool := errsB bn es ks ts K && clfB K "WovenTasks" ["weaving"] && clfB K "WaitTasks" [] && nwB K "WaitTasks"
abbrev R : PySem.W.OpenRow := PySem.W.OpenLaw.row PySem.Challenge.rw_quickways_k24_picks_of_both_ways
abbrev hk : PySem.W.Hook := hookX 6 R.prog fa fn er ex tbs fxE
def ob (s : PySem.W.SharedT) : AlX := obsXG 6 R.prog fa fn er ex tbs fxE (HandSHeadRun.getT s)
def loose1 : List Str := [Str.ofString "pick_at", Str.ofString "WovenTasks", Str.ofString "WaitTasks", Str.ofString "_law_pool", Str.ofString "_law_mixed", Str.ofString "_law_draw", Str.ofString "_law_is_int", Str.ofString "_law_same", Str.ofString "_law_numbers", Str.ofString "_law_tasks", Str.ofString "_law_waits", Str.ofString "_law_chosen", Str.ofString "_law_picked"]
def loose2 : List Str := []
theorem run_false (w : World) : HandSHeadRun.RunEq R (PySem.W.view R.prog [16]) hk ob 7100 (loose1 ++ loose2) (w.withFollow "special-get-raises" false) := by
  intro os
  kernel_rfl
theorem run_true (w : World) : HandSHeadRun.RunEq R (PySem.W.view R.prog [16]) hk ob 7100 (loose1 ++ loose2) (w.withFollow "special-get-raises" true) := by
  intro os
  kernel_rfl
end K24
open PySem PySem.W PySem.Calls PyProof.Rows
end
set_option Elab.async false
set_option linter.all false
set_option maxRecDepth 100000
set_option maxHeartbeats 4000000
namespace Ip
open PySem L2 PySem.W He
theorem vlS_ok {v : Value} (h : vlS v = true) : ∃ s t, v = .str s t := by
  cases v <;> first | exact ⟨_, _, rfl⟩ | cases h
theorem vlI_ok {v : Value} (h : vlI v = true) : ∃ s t, v = .int s t := by
  cases v <;> first | exact ⟨_, _, rfl⟩ | cases h
theorem vlB_ok {v : Value} (h : vlB v = true) : ∃ b, v = .bool b := by
  cases v <;> first | exact ⟨_, rfl⟩ | cases h
theorem refIs_ok {v : Value} {a : Addr} (h : refIs v a = true) : v = .ref a := by
  cases v with
  | ref b => rw [of_decide_eq_true h]
  | _ => cases h
theorem lmB_ok {K : Frag} {x : Str} (h : lmB K x = true) : K.lookup (lmP K x) = none ∧ (∀ o fd, K.lookup (ga K x) = some o → o.data = .func fd → fd.code = .ref (lmC K x)) ∧ ∀ h : Heap, K.In h → CodeHd h (lmC K x) (lmP K x) := by
  unfold lmB at h
  rw [Bool.and_eq_true, Bool.and_eq_true, Bool.and_eq_true] at h
  obtain ⟨h1, h2, h3, h4⟩ := h
  refine ⟨Option.isNone_iff_eq_none.mp h3, fun o fd e d => ?_, fun hp hK => ?_⟩
  · rw [e] at h1
    obtain ⟨oc, od, dt, sl⟩ := o
    cases d
    exact refIs_ok h1
  · cases q : K.lookup (lmC K x) with
    | none =>
      rw [q] at h2
      cases h2
    | some o =>
      rw [q] at h2
      obtain ⟨oc, od, dt, sl⟩ := o
      cases oc with
      | type cn =>
        cases dt with
        | fields vs =>
          have h2 : (decide (cn = "code") && (refIs (vs.getD 11 .none) (lmP K x) && (decide (11 < vs.size) && (vlS (vs.getD 18 .none) && (vlI (vs.getD 7 .none) && (vlB (vs.getD 9 .none) && vlI (vs.getD 10 .none))))))) = true := h2
          simp only [Bool.and_eq_true, decide_eq_true_eq] at h2
          obtain ⟨g1, g2, g3, g4, g5, g6, g7⟩ := h2
          obtain ⟨s1, t1, e1⟩ := vlS_ok g4
          obtain ⟨s2, t2, e2⟩ := vlI_ok g5
          obtain ⟨b3, e3⟩ := vlB_ok g6
          obtain ⟨s4, t4, e4⟩ := vlI_ok g7
          have e5 := refIs_ok g2
          have e6 : vs[11]? = some (.ref (lmP K x)) := by
            rw [Array.getElem?_eq_getElem g3, ← e5]
            simp [Array.getD, g3]
          exact ⟨_, vs, s1, t1, s2, t2, b3, s4, t4, hK _ _ q, by rw [g1], rfl, e6, e5, e1, e2, e3, e4, of_decide_eq_true h4⟩
        | _ => cases h2
      | _ => cases dt <;> cases h2
end Ip

set_option Elab.async false
set_option linter.all false

set_option Elab.async false
set_option linter.all false
set_option maxRecDepth 100000
set_option maxHeartbeats 4000000
namespace Ip
open PySem L2
abbrev D := PyData
/-- every known object stays -/
def Ex (H H' : Hp) : Prop := ∀ a o, H a = some o → H' a = some o
theorem Ex.refl (H : Hp) : Ex H H := fun _ _ h => h
theorem Ex.trans {H H1 H2 : Hp} (a : Ex H H1) (b : Ex H1 H2) : Ex H H2 := fun x o h => b x o (a x o h)
theorem Ex.new {H : Hp} {q : Addr} {o : HO} (h : H q = none) : Ex H (upd H q o) := fun a u e => by
  rw [upd_ne (ne_of_none e h)]
  exact e
theorem Ex.free {H H' : Hp} {q : Addr} (e : Ex H H') (h : H' q = none) : H q = none := by
  cases h1 : H q with
  | none => rfl
  | some o =>
    rw [e q o h1] at h
    cases h
theorem Ex.up {B H : Hp} {q : Addr} {o : HO} (e : Ex B H) : Ex (upd B q o) (upd H q o) := fun a u h => by
  by_cases ha : a = q
  · subst ha
    rw [upd_same] at h ⊢
    exact h
  · rw [upd_ne ha] at h ⊢
    exact e a u h
theorem Ex.right {B H : Hp} {q : Addr} {o : HO} (e : Ex B H) (h : B q = none) : Ex B (upd H q o) := fun a u ha => by
  rw [upd_ne (ne_of_none ha h)]
  exact e a u ha
/-- what an own class must be, for its instances to be data -/
structure ObC (K : PySem.W.Frag) (C : Addr) : Prop where
  cls : Cls K C
  ha : PySem.W.findIn K (.ref C) "__class__" = some (some (.builtin "object.__class__"))
  hn : PySem.W.specialIn K (.builtin "object.__class__") "__get__" = some (some (.builtin "getset_descriptor.__get__"))
  tk : PySem.W.takesIn K (.builtin "object.__class__") = some true
  hm : PySem.W.mroIn K C (.type "object") = some true
  no : ∀ t : String, t ∈ (["int", "bool", "str", "list", "tuple"] : List String) → PySem.W.kitOne K (.ref C) (.type t) = some false
theorem ObC.ty {K : PySem.W.Frag} {C : Addr} {H : Hp} (o : ObC K C) {a dx : Addr} {fs : List (Str × V)} (h : H a = some (.ins C dx fs)) : TyOf K H (.ref a) (.ref C) := .ins h o.cls o.ha o.hn o.tk o.hm
mutual
/-- no instance in it -/
def noObj : D → Bool
  | .dict _ => false
  | .list xs => noObjs xs
  | .tuple xs => noObjs xs
  | _ => true
def noObjs : List D → Bool
  | [] => true
  | x :: xs => noObj x && noObjs xs
end
mutual
theorem noObj_of : ∀ {d : D}, d.canLay0 = true → noObj d = true
  | .none, _ => rfl
  | .bool _, _ => rfl
  | .int _, _ => rfl
  | .str _, _ => rfl
  | .list xs, h => noObjs_of (ds := xs) h
  | .tuple xs, h => noObjs_of (ds := xs) h
  | .dict _, h => by cases h
theorem noObjs_of : ∀ {ds : List D}, PyData.canLayAll0 ds = true → noObjs ds = true
  | [], _ => rfl
  | x :: xs, h => by
    unfold PyData.canLayAll0 at h
    obtain ⟨h1, h2⟩ := Bool.and_eq_true_iff.mp h
    unfold noObjs
    rw [noObj_of h1, noObjs_of h2]
    rfl
end
/-- keys of a dict as data: numbers and texts; tuples of these -/
def keyD : L2.Key → D
  | .inl i => .int i
  | .inr s => .str s
theorem noObj_shaped {d : D} (h : SeqAt.shaped d = true) : noObj d = true := noObj_of (SeqAt.canLay_of_shaped h)
theorem noObjs_all : ∀ {ds : List D}, (ds.all noObj) = true → noObjs ds = true
  | [], _ => rfl
  | x :: xs, h => by
    rw [List.all_cons] at h
    obtain ⟨h1, h2⟩ := Bool.and_eq_true_iff.mp h
    unfold noObjs
    rw [h1, noObjs_all h2]
    rfl
def hI (ns : List Int) : Int := reduceHash (Builtin.Tuple.tupleHashOf (ns.map hashInt))
abbrev TE3 := List Int × Addr × Value
def eI (x : TE3) : DictEntry := ⟨hI x.1, .ref x.2.1, x.2.2⟩
theorem eI_eq (P : Program) (w : World) : (eI : TE3 → DictEntry) = entryOfKey (tupleKind (intKind P w)) := rfl
def DTs (a : Addr) (xs : List TE3) : Heap → Prop := fun h => xs.length ≤ sizeLine ∧ (a == sysModules) = false ∧ (xs.map (·.1)).Nodup ∧
  ∃ (o : Obj) (es : Array DictEntry) (ep : Nat), h.get? a = some o ∧ o.ExactDict ∧ o.data = .dict es ep ∧ es.toList = xs.map eI
def dTO (a : Addr) (xs : List TE3) : HO := .ext (DTs a xs)
mutual
inductive Rp (K : PySem.W.Frag) (B : Hp) : V → D → Prop
  | non : Rp K B .non .none
  | bl (b : Bool) : Rp K B (.bl b) (.bool b)
  | int (i : Int) : Rp K B (.int i) (.int i)
  | str (x : Str) : Rp K B (.str x) (.str x)
  | lst {a : Addr} {xs : List V} {ds : List D} : B a = some (.lst xs) → RpA K B xs ds → Rp K B (.ref a) (.list ds)
  | tup {a : Addr} {xs : List V} {ds : List D} : SqT K B a xs → RpA K B xs ds → Rp K B (.ref a) (.tuple ds)
  | obj {a dx : Addr} {c : Str} {fs : List (Str × V)} {ds : List (D × D)} : ObC K (He.ga K c) → B a = some (.ins (He.ga K c) dx fs) → RpF K B fs ds → Rp K B (.ref a) (.dict ((.str c, .none) :: ds))
  | dctK {a : Addr} {o : Obj} {kvs : List (L2.Key × V)} {tab : List (D × D)} : B a = some (.frz o (.dK kvs)) → RpK K B kvs tab → Rp K B (.ref a) (.dict ((.bool false, .none) :: tab))
  | dctT {a : Addr} {xs : List TE3} {tab : List (D × D)} : B a = some (dTO a xs) → RpT K B xs tab → Rp K B (.ref a) (.dict ((.bool true, .none) :: tab))
inductive RpT (K : PySem.W.Frag) (B : Hp) : List TE3 → List (D × D) → Prop
  | nil : RpT K B [] []
  | cons {ns : List Int} {b : Addr} {u : Value} {v : V} {xs : List TE3} {d : D} {tab : List (D × D)} : SqT K B b (ns.map V.int) → L2.RelV v u → Rp K B v d → RpT K B xs tab → RpT K B ((ns, b, u) :: xs) ((.tuple (ns.map PyData.int), d) :: tab)
inductive RpK (K : PySem.W.Frag) (B : Hp) : List (L2.Key × V) → List (D × D) → Prop
  | nil : RpK K B [] []
  | cons {k : L2.Key} {v : V} {kvs : List (L2.Key × V)} {d : D} {tab : List (D × D)} : Rp K B v d → RpK K B kvs tab → RpK K B ((k, v) :: kvs) ((keyD k, d) :: tab)
inductive RpF (K : PySem.W.Frag) (B : Hp) : List (Str × V) → List (D × D) → Prop
  | nil : RpF K B [] []
  | cons {f : Str} {v : V} {fs : List (Str × V)} {d : D} {ds : List (D × D)} : Rp K B v d → RpF K B fs ds → RpF K B ((f, v) :: fs) ((.str f, d) :: ds)
inductive RpA (K : PySem.W.Frag) (B : Hp) : List V → List D → Prop
  | nil : RpA K B [] []
  | cons {v : V} {vs : List V} {d : D} {ds : List D} : Rp K B v d → RpA K B vs ds → RpA K B (v :: vs) (d :: ds)
end
theorem sqt_mono {K : PySem.W.Frag} {B B' : Hp} (e : Ex B B') {a : Addr} {xs : List V} (h : SqT K B a xs) : SqT K B' a xs := by
  rcases h with (h | ⟨o, h⟩) | h
  · exact .inl (.inl (e _ _ h))
  · exact .inl (.inr ⟨o, e _ _ h⟩)
  · exact .inr h
mutual
theorem Rp.mono {K : PySem.W.Frag} {B B' : Hp} (e : Ex B B') : ∀ {d : D} {v : V}, Rp K B v d → Rp K B' v d
  | _, _, .non => .non
  | _, _, .bl b => .bl b
  | _, _, .int i => .int i
  | _, _, .str x => .str x
  | _, _, .lst h r => .lst (e _ _ h) (RpA.mono e r)
  | _, _, .tup h r => .tup (sqt_mono e h) (RpA.mono e r)
  | _, _, .obj o h r => .obj o (e _ _ h) (RpF.mono e r)
  | _, _, .dctK h r => .dctK (e _ _ h) (RpK.mono e r)
  | _, _, .dctT h r => .dctT (e _ _ h) (RpT.mono e r)
theorem RpT.mono {K : PySem.W.Frag} {B B' : Hp} (e : Ex B B') : ∀ {ds : List (D × D)} {xs : List TE3}, RpT K B xs ds → RpT K B' xs ds
  | _, _, .nil => .nil
  | _, _, .cons q z h r => .cons (sqt_mono e q) z (Rp.mono e h) (RpT.mono e r)
theorem RpK.mono {K : PySem.W.Frag} {B B' : Hp} (e : Ex B B') : ∀ {ds : List (D × D)} {fs : List (L2.Key × V)}, RpK K B fs ds → RpK K B' fs ds
  | _, _, .nil => .nil
  | _, _, .cons h r => .cons (Rp.mono e h) (RpK.mono e r)
theorem RpF.mono {K : PySem.W.Frag} {B B' : Hp} (e : Ex B B') : ∀ {ds : List (D × D)} {fs : List (Str × V)}, RpF K B fs ds → RpF K B' fs ds
  | _, _, .nil => .nil
  | _, _, .cons h r => .cons (Rp.mono e h) (RpF.mono e r)
theorem RpA.mono {K : PySem.W.Frag} {B B' : Hp} (e : Ex B B') : ∀ {ds : List D} {vs : List V}, RpA K B vs ds → RpA K B' vs ds
  | _, _, .nil => .nil
  | _, _, .cons h r => .cons (Rp.mono e h) (RpA.mono e r)
end
section
variable {K : PySem.W.Frag} {B : Hp}
theorem RpA.length : ∀ {vs : List V} {ds : List D}, RpA K B vs ds → vs.length = ds.length
  | _, _, .nil => rfl
  | _, _, .cons _ r => congrArg Nat.succ (RpA.length r)
theorem RpA.append : ∀ {vs us : List V} {ds es : List D}, RpA K B vs ds → RpA K B us es → RpA K B (vs ++ us) (ds ++ es)
  | _, _, _, _, .nil, s => s
  | _, _, _, _, .cons h r, s => .cons h (RpA.append r s)
theorem RpA.get : ∀ {vs : List V} {ds : List D} {i : Nat} {d : D}, RpA K B vs ds → ds[i]? = some d → ∃ v, vs[i]? = some v ∧ Rp K B v d
  | _, _, _, _, .nil, e => by simp at e
  | _, _, 0, _, .cons h _, e => by simp at e; subst e; exact ⟨_, rfl, h⟩
  | _, _, i + 1, d, .cons _ r, e => by
    obtain ⟨v, h1, h2⟩ := RpA.get (i := i) (d := d) r (by simpa using e)
    exact ⟨v, by simpa using h1, h2⟩
theorem RpA.getV : ∀ {vs : List V} {ds : List D} {i : Nat} {v : V}, RpA K B vs ds → vs[i]? = some v → ∃ d, ds[i]? = some d ∧ Rp K B v d
  | _, _, _, _, .nil, e => by simp at e
  | _, _, 0, _, .cons h _, e => by simp at e; subst e; exact ⟨_, rfl, h⟩
  | _, _, i + 1, v, .cons _ r, e => by
    obtain ⟨d, h1, h2⟩ := RpA.getV (i := i) (v := v) r (by simpa using e)
    exact ⟨d, by simpa using h1, h2⟩
theorem RpA.set : ∀ {vs : List V} {ds : List D} {v : V} {d : D} (i : Nat), RpA K B vs ds → Rp K B v d → RpA K B (vs.set i v) (ds.set i d)
  | _, _, _, _, _, .nil, _ => .nil
  | _, _, _, _, 0, .cons _ r, h => .cons h r
  | _, _, _, _, i + 1, .cons h0 r, h => .cons h0 (RpA.set i r h)
theorem RpA.one {v : V} {d : D} (h : Rp K B v d) : RpA K B [v] [d] := .cons h .nil
mutual
theorem Rp.dp {H : Hp} (e : Ex B H) : ∀ {d : D} {v : V}, noObj d = true → Rp K B v d → Dp K H v d
  | _, _, _, .non => .non
  | _, _, _, .bl b => .bl b
  | _, _, _, .int i => .int i
  | _, _, _, .str x => .str x
  | _, _, n, .lst h r => .lst (Or.inl (Or.inl (e _ _ h))) (RpA.dp e n r)
  | _, _, n, .tup h r => .tup (sqt_mono e h) (RpA.dp e n r)
  | _, _, n, .obj _ _ _ => by cases n
  | _, _, n, .dctK _ _ => by cases n
  | _, _, n, .dctT _ _ => by cases n
theorem RpA.dp {H : Hp} (e : Ex B H) : ∀ {ds : List D} {vs : List V}, noObjs ds = true → RpA K B vs ds → DpAll K H vs ds
  | _, _, _, .nil => .nil
  | _, _, n, .cons h r => by
    unfold noObjs at n
    obtain ⟨n1, n2⟩ := Bool.and_eq_true_iff.mp n
    exact .cons (Rp.dp e n1 h) (RpA.dp e n2 r)
end
end
/-- where it stands, and where its script -/
structure Pa where
  a : Addr
  q : Addr
  /-- a caught error: its object, its dict, its class, its field -/
  lk : Addr → Addr → Str → Str → Prop
  /-- the slot of a list that the caller gets back changed, and where it stands -/
  io : Option (Nat × Addr)
  /-- what is returned is a new list (or None) -/
  fr : Bool
  /-- lists that defs hand about and change: where each stands -/
  ca : Nat → Option Addr
  /-- the tables of code objects: where each stands, its name -/
  tb : List (Addr × Str) := []
  /-- the object that is being made -/
  sf : Addr := 0
instance : Coe Pa Addr := ⟨Pa.a⟩
structure Pl where
  ns : List Int
  i : Int
  r : Int
  c : Int
  l : Int
  /-- what they hold -/
  cs : List (List D) := []
/-- such a list, as an item or an argument -/
def handle (k : Nat) : D := .dict [(.none, .int k)]
/-- flat things, or such a list -/
inductive RcV (ca : Nat → Option Addr) : V → D → Prop
  | non : RcV ca .non .none
  | bl (b : Bool) : RcV ca (.bl b) (.bool b)
  | int (i : Int) : RcV ca (.int i) (.int i)
  | str (x : Str) : RcV ca (.str x) (.str x)
  | cell {k : Nat} {a : Addr} : ca k = some a → RcV ca (.ref a) (handle k)
inductive RcA (ca : Nat → Option Addr) : List V → List D → Prop
  | nil : RcA ca [] []
  | cons {v : V} {vs : List V} {d : D} {ds : List D} : RcV ca v d → RcA ca vs ds → RcA ca (v :: vs) (d :: ds)
/-- not the pool, none of the lists -/
def NotP (p : Pa) (a : Addr) : Prop := a ≠ p.a ∧ (∀ k, p.ca k ≠ some a) ∧ ∀ q ∈ p.tb, q.1 ≠ a
/-- of the lists before it -/
def lowc (ca : Nat → Option Addr) (k : Nat) : Nat → Option Addr := fun j => if j < k then ca j else none
structure CeAt (p : Pa) (st : Pl) (B F H : Hp) : Prop where
  at_ : ∀ k a, p.ca k = some a → ∃ xs ds, st.cs[k]? = some ds ∧ H a = some (.lst xs) ∧ RcA (lowc p.ca k) xs ds
  b : ∀ k a, p.ca k = some a → B a = none ∧ F a = none ∧ a ≠ p.a
  inj : ∀ j k a, p.ca j = some a → p.ca k = some a → j = k
  tn : ∀ q ∈ p.tb, B q.1 = none ∧ F q.1 = none
  tt : LamX.Tabs p.tb H
/-- tables stay where a list is put in another's place -/
theorem tabs_lst {T : List (Addr × Str)} {H : Hp} {a : Addr} {xs : List V} {o : HO} (h : LamX.Tabs T H) (ha : H a = some (.lst xs)) : LamX.Tabs T (upd H a o) := fun q hq => by
  obtain ⟨ps, h1, h2, h3⟩ := h q hq
  refine ⟨ps, by rw [upd_ne (fun e => by rw [e, ha] at h1; cases h1)]; exact h1, h2, fun pos cv hc => ?_⟩
  obtain ⟨c, e1, e2⟩ := h3 pos cv hc
  exact ⟨c, e1, by rw [upd_ne (fun e => by rw [e, ha] at e2; cases e2)]; exact e2⟩
theorem tabs_new {T : List (Addr × Str)} {H : Hp} {a : Addr} {o : HO} (h : LamX.Tabs T H) (ha : H a = none) : LamX.Tabs T (upd H a o) := h.ext fun b u e => by
  rw [upd_ne (ne_of_none e ha)]
  exact e
theorem tabs_upd {T : List (Addr × Str)} {H : Hp} {a : Addr} {o : HO} (h : LamX.Tabs T H) (ha : H a = none ∨ ∃ xs, H a = some (.lst xs)) : LamX.Tabs T (upd H a o) := by
  rcases ha with ha | ⟨xs, ha⟩
  · exact tabs_new h ha
  · exact tabs_lst h ha
theorem CeAt.tne {p : Pa} {st : Pl} {B F H : Hp} (h : CeAt p st B F H) {q : Addr × Str} (hq : q ∈ p.tb) {a : Addr} (ha : H a = none ∨ ∃ xs, H a = some (.lst xs)) : q.1 ≠ a := fun e => by
  obtain ⟨ps, h1, _⟩ := h.tt q hq
  rw [e] at h1
  rcases ha with ha | ⟨xs, ha⟩ <;> rw [ha] at h1 <;> cases h1
theorem CeAt.up {p : Pa} {st : Pl} {B F H B' F' H' : Hp} (h : CeAt p st B F H) (hb : ∀ k a, p.ca k = some a → B' a = none ∧ F' a = none) (hh : ∀ k a, p.ca k = some a → H' a = H a) (hn : ∀ q ∈ p.tb, B' q.1 = none ∧ F' q.1 = none) (ht : LamX.Tabs p.tb H → LamX.Tabs p.tb H') : CeAt p st B' F' H' where
  tn := hn
  tt := ht h.tt
  at_ := fun k a hk => by
    obtain ⟨xs, ds, h1, h2, h3⟩ := h.at_ k a hk
    exact ⟨xs, ds, h1, by rw [hh k a hk]; exact h2, h3⟩
  b := fun k a hk => ⟨(hb k a hk).1, (hb k a hk).2, (h.b k a hk).2.2⟩
  inj := h.inj
theorem CeAt.ne {p : Pa} {st : Pl} {B F H : Hp} (h : CeAt p st B F H) {q : Addr} (hq : H q = none) {k : Nat} {a : Addr} (hk : p.ca k = some a) : a ≠ q := fun e => by
  obtain ⟨xs, ds, _, h2, _⟩ := h.at_ k a hk
  rw [e, hq] at h2
  cases h2
def PlAt (B H : Hp) (p : Pa) (s : Pl) : Prop := H p = some (.lst [.ref p.q, .int s.i, .int s.r, .int s.c, .int s.l]) ∧ B p.q = some (.lst (s.ns.map V.int))
structure Bs (p : Pa) (st : Pl) (B F H : Hp) : Prop where
  b : Ex B H
  f : Ex F H
  d : ∀ a o, F a = some o → B a = none
  pf : F p = none
  pb : B p = none
  pl : PlAt B H p st
  ce : CeAt p st B F H
theorem Bs.pn {p : Pa} {st : Pl} {B F H : Hp} (w : Bs p st B F H) {q : Addr} (h : H q = none) : q ≠ p := fun e => by
  obtain ⟨h1, _⟩ := w.pl
  rw [e, h1] at h
  cases h
/-- a new object is known -/
theorem Bs.new {p : Pa} {st : Pl} {B F H : Hp} (w : Bs p st B F H) {q : Addr} {o : HO} (h : H q = none) : Bs p st (upd B q o) F (upd H q o) where
  b := w.b.up
  f := w.f.right (w.f.free h)
  d := fun a u e => by
    rw [upd_ne (ne_of_none e (w.f.free h))]
    exact w.d a u e
  pf := w.pf
  pb := by
    rw [upd_ne (fun e => w.pn h e.symm)]
    exact w.pb
  pl := by
    obtain ⟨h1, h2⟩ := w.pl
    exact ⟨by rw [upd_ne (fun e => w.pn h e.symm)]; exact h1, by rw [upd_ne (ne_of_none h2 (w.b.free h))]; exact h2⟩
  ce := w.ce.up (fun k a hk => ⟨by rw [upd_ne (w.ce.ne h hk)]; exact (w.ce.b k a hk).1, (w.ce.b k a hk).2.1⟩) (fun k a hk => by rw [upd_ne (w.ce.ne h hk)])
    (fun t ht => ⟨by rw [upd_ne (w.ce.tne ht (.inl h))]; exact (w.ce.tn t ht).1, (w.ce.tn t ht).2⟩) fun z => tabs_new z h
inductive Sl where
  | no
  | im (d : D)
  | ow (ds : List D)
  | pl
  | er (c : Str) (v : D)
  | ce (k : Nat)
  /-- a dict with text keys, read only -/
  | dk (tab : List (Str × D))
  /-- the object that is being made -/
  | sf
  /-- an own dict: are its keys tuples; keys and values in their order -/
  | od (t : Bool) (tab : List (D × D))
def isOw : Sl → Bool
  | .ow _ => true
  | .od _ _ => true
  | _ => false
/-- own things under two names are two -/
def Ap (env : List Sl) (σ : L2.St) : Prop := ∀ (i j : Nat) (s t : Sl) (a : Addr), isOw s = true → isOw t = true → env[i]? = some s → env[j]? = some t → σ[i]? = some (some (.ref a)) → σ[j]? = some (some (.ref a)) → i = j
theorem Ap.set {env : List Sl} {σ : L2.St} (h : Ap env σ) (j : Nat) {s : Sl} (hs : isOw s = false) (v : Option V) : Ap (env.set j s) (σ.set j v) := fun i k x y b hx hy hi hk si sk => by
  have hne : ∀ {i : Nat} {x : Sl}, isOw x = true → (env.set j s)[i]? = some x → j ≠ i := fun {i x} hx hi e => by
    subst e
    have hl : j < env.length := by
      have := (List.getElem?_eq_some_iff.mp hi).1
      rw [List.length_set] at this
      exact this
    rw [List.getElem?_set_self hl] at hi
    cases hi
    rw [hs] at hx
    cases hx
  have n1 := hne hx hi
  have n2 := hne hy hk
  rw [List.getElem?_set_ne n1] at hi si
  rw [List.getElem?_set_ne n2] at hk sk
  exact h i k x y b hx hy hi hk si sk
/-- a new one -/
theorem Ap.new {env : List Sl} {σ : L2.St} {a : Addr} (h : Ap env σ) (ha : ∀ (i : Nat) (s : Sl) (b : Addr), isOw s = true → env[i]? = some s → σ[i]? = some (some (.ref b)) → b ≠ a) (j : Nat) {s : Sl} : Ap (env.set j s) (σ.set j (some (.ref a))) := fun i k x y b hx hy hi hk si sk => by
  have old : ∀ {i : Nat} {x : Sl}, isOw x = true → j ≠ i → (env.set j s)[i]? = some x → (σ.set j (some (.ref a)))[i]? = some (some (.ref b)) → b ≠ a := fun {i x} hx e hi si => by
    rw [List.getElem?_set_ne e] at hi si
    exact ha i x b hx hi si
  have new : ∀ {i : Nat}, j = i → (σ.set j (some (.ref a)))[i]? = some (some (.ref b)) → b = a := fun {i} e si => by
    subst e
    have hl : j < σ.length := by
      have := (List.getElem?_eq_some_iff.mp si).1
      rw [List.length_set] at this
      exact this
    rw [List.getElem?_set_self hl] at si
    cases si
    rfl
  by_cases e1 : j = i
  · by_cases e2 : j = k
    · rw [← e1, ← e2]
    · exact absurd (new e1 si) (old hy e2 hk sk)
  · by_cases e2 : j = k
    · exact absurd (new e2 sk) (old hx e1 hi si)
    · rw [List.getElem?_set_ne e1] at hi si
      rw [List.getElem?_set_ne e2] at hk sk
      exact h i k x y b hx hy hi hk si sk
/-- the same names, or fewer -/
theorem Ap.less {env env' : List Sl} {σ : L2.St} (h : Ap env σ) (g : ∀ (i : Nat) (s : Sl), isOw s = true → env'[i]? = some s → ∃ t, isOw t = true ∧ env[i]? = some t) : Ap env' σ := fun i k x y b hx hy hi hk si sk => by
  obtain ⟨x', h1, h2⟩ := g i x hx hi
  obtain ⟨y', h3, h4⟩ := g k y hy hk
  exact h i k x' y' b h1 h3 h2 h4 si sk
/-- what such a dict holds -/
def DkR (K : PySem.W.Frag) (B : Hp) (kvs : List (L2.Key × V)) (tab : List (Str × D)) : Prop := ∀ s : Str, (tab.lookup s = none → valV kvs (Sum.inr s) = none) ∧ ∀ d, tab.lookup s = some d → ∃ v, valV kvs (Sum.inr s) = some v ∧ Rp K B v d
/-- what an own dict holds -/
def DcR (K : PySem.W.Frag) (B : Hp) (a : Addr) : Bool → HO → List (D × D) → Prop
  | false, .dK kvs, tab => RpK K B kvs tab
  | true, u, tab => ∃ xs, u = dTO a xs ∧ RpT K B xs tab
  | _, _, _ => False
theorem DcR.mono {K : PySem.W.Frag} {B B' : Hp} (e : Ex B B') {a : Addr} {t : Bool} {u : HO} {tab : List (D × D)} (h : DcR K B a t u tab) : DcR K B' a t u tab := by
  cases t with
  | true =>
    obtain ⟨xs, h1, h2⟩ := h
    exact ⟨xs, h1, h2.mono e⟩
  | false => cases u <;> first | exact h.elim | exact RpK.mono e h
theorem DkR.mono {K : PySem.W.Frag} {B B' : Hp} {kvs : List (L2.Key × V)} {tab : List (Str × D)} (e : Ex B B') (h : DkR K B kvs tab) : DkR K B' kvs tab := fun s => ⟨(h s).1, fun d q => by
  obtain ⟨v, h1, h2⟩ := (h s).2 d q
  exact ⟨v, h1, h2.mono e⟩⟩
def SlR (K : PySem.W.Frag) (p : Pa) (B M : Hp) : Sl → Option V → Prop
  | .no, _ => True
  | .im d, some v => Rp K B v d
  | .im _, none => False
  | .ow ds, some (.ref a) => ∃ xs, M a = some (.lst xs) ∧ RpA K B xs ds
  | .ow _, _ => False
  | .pl, some (.ref a) => a = p
  | .pl, _ => False
  | .ce k, some (.ref a) => p.ca k = some a
  | .ce _, _ => False
  | .er c v, o => ∃ (a dd : Addr) (f : Str) (u : V), o = some (.ref a) ∧ p.lk a dd c f ∧ B dd = some (.xd [(f, u)]) ∧ Rp K B u v
  | .dk tab, o => ∃ (a : Addr) (kvs : List (L2.Key × V)), o = some (.ref a) ∧ B a = some (.dK kvs) ∧ DkR K B kvs tab
  | .sf, o => o = some (.ref p.sf)
  | .od t tab, o => ∃ (a : Addr) (u : HO), o = some (.ref a) ∧ M a = some u ∧ DcR K B a t u tab
structure EnR (K : PySem.W.Frag) (p : Pa) (B M : Hp) (env : List Sl) (σ : L2.St) : Prop where
  len : env.length = σ.length
  at_ : ∀ (i : Nat) (s : Sl), env[i]? = some s → ∃ o : Option V, σ[i]? = some o ∧ SlR K p B M s o
  ap : Ap env σ
  io : ∀ (i : Nat) (a : Addr) (ds : List D), p.io = some (i, a) → env[i]? = some (.ow ds) → σ[i]? = some (some (.ref a))
structure Rel (K : PySem.W.Frag) (p : Pa) (st : Pl) (B M F : Hp) (env : List Sl) (σ : L2.St) (H : Hp) : Prop where
  bs : Bs p st B F H
  m : Ex M H
  md : ∀ a o, M a = some o → B a = none ∧ F a = none ∧ a ≠ p
  mc : ∀ k a, p.ca k = some a → M a = none
  mt : ∀ q ∈ p.tb, M q.1 = none
  en : EnR K p B M env σ
section
variable {K : PySem.W.Frag} {p : Pa} {st : Pl} {B M F : Hp} {env : List Sl} {σ : L2.St} {H : Hp}
theorem SlR.mono {B' : Hp} (e : Ex B B') : ∀ {s : Sl} {o : Option V}, SlR K p B M s o → SlR K p B' M s o
  | .no, _, _ => True.intro
  | .im _, some _, h => Rp.mono e h
  | .im _, none, h => h
  | .ow _, some (.ref _), h => by
    obtain ⟨xs, h1, h2⟩ := h
    exact ⟨xs, h1, h2.mono e⟩
  | .ow _, some .non, h | .ow _, some (.bl _), h | .ow _, some (.int _), h | .ow _, some (.str _), h | .ow _, some (.byt _), h | .ow _, some (.flt _), h | .ow _, some (.ty _), h | .ow _, none, h => h
  | .pl, some (.ref _), h => h
  | .pl, some .non, h | .pl, some (.bl _), h | .pl, some (.int _), h | .pl, some (.str _), h | .pl, some (.byt _), h | .pl, some (.flt _), h | .pl, some (.ty _), h | .pl, none, h => h
  | .ce _, some (.ref _), h => h
  | .ce _, some .non, h | .ce _, some (.bl _), h | .ce _, some (.int _), h | .ce _, some (.str _), h | .ce _, some (.byt _), h | .ce _, some (.flt _), h | .ce _, some (.ty _), h | .ce _, none, h => h
  | .er _ _, _, h => by
    obtain ⟨a, dd, f, u, h1, h2, h3, h4⟩ := h
    exact ⟨a, dd, f, u, h1, h2, e _ _ h3, h4.mono e⟩
  | .dk _, _, h => by
    obtain ⟨a, kvs, h1, h2, h3⟩ := h
    exact ⟨a, kvs, h1, e _ _ h2, h3.mono e⟩
  | .sf, _, h => h
  | .od _ _, _, h => by
    obtain ⟨a, u, h1, h2, h3⟩ := h
    exact ⟨a, u, h1, h2, h3.mono e⟩
/-- where an own thing stands -/
theorem SlR.ow_at {s : Sl} {a : Addr} (hs : isOw s = true) (h : SlR K p B M s (some (.ref a))) : ∃ o, M a = some o := by
  cases s with
  | ow ds =>
    obtain ⟨xs, h1, _⟩ := h
    exact ⟨_, h1⟩
  | od t tab =>
    obtain ⟨b, u, h1, h2, _⟩ := h
    cases h1
    exact ⟨_, h2⟩
  | _ => cases hs
theorem EnR.ow_at (h : EnR K p B M env σ) {i : Nat} {s : Sl} {a : Addr} (hs : isOw s = true) (hi : env[i]? = some s) (si : σ[i]? = some (some (.ref a))) : ∃ o, M a = some o := by
  obtain ⟨o, h1, h2⟩ := h.at_ i s hi
  rw [si] at h1
  cases h1
  exact h2.ow_at hs
/-- a new own thing -/
theorem EnR.apNew {a : Addr} (h : EnR K p B M env σ) (ha : M a = none) (j : Nat) {s : Sl} : Ap (env.set j s) (σ.set j (some (.ref a))) := h.ap.new (fun i s b hs hi si e => by
  obtain ⟨o, h1⟩ := h.ow_at hs hi si
  rw [e, ha] at h1
  cases h1) j
theorem EnR.apOw (h : EnR K p B M env σ) {i k : Nat} {ds fs : List D} {a : Addr} (hi : env[i]? = some (.ow ds)) (hk : env[k]? = some (.ow fs)) (si : σ[i]? = some (some (.ref a))) (sk : σ[k]? = some (some (.ref a))) : i = k := h.ap i k _ _ a rfl rfl hi hk si sk
theorem EnR.mono {B' : Hp} (e : Ex B B') (h : EnR K p B M env σ) : EnR K p B' M env σ := ⟨h.len, fun i s hi => by
  obtain ⟨o, h1, h2⟩ := h.at_ i s hi
  exact ⟨o, h1, h2.mono e⟩, h.ap, h.io⟩
/-- a new object is known -/
theorem Rel.new (r : Rel K p st B M F env σ H) {q : Addr} {o : HO} (h : H q = none) : Rel K p st (upd B q o) M F env σ (upd H q o) where
  bs := r.bs.new h
  m := r.m.right (r.m.free h)
  md := fun a u e => by
    obtain ⟨h1, h2, h3⟩ := r.md a u e
    refine ⟨?_, h2, h3⟩
    rw [upd_ne (ne_of_none e (r.m.free h))]
    exact h1
  mc := r.mc
  mt := r.mt
  en := r.en.mono (Ex.new (r.bs.b.free h))
/-- the two own parts as one: what a callee leaves alone -/
def uni (M F : Hp) : Hp := fun a => match M a with
  | some o => some o
  | none => F a
theorem uni_l {M F : Hp} {a : Addr} {o : HO} (h : M a = some o) : uni M F a = some o := by unfold uni; rw [h]
theorem uni_r {M F : Hp} {a : Addr} (h : M a = none) : uni M F a = F a := by unfold uni; rw [h]
theorem uni_cases {M F : Hp} {a : Addr} {o : HO} (h : uni M F a = some o) : M a = some o ∨ (M a = none ∧ F a = some o) := by
  cases e : M a with
  | some u => rw [uni_l e] at h; exact .inl h
  | none => rw [uni_r e] at h; exact .inr ⟨rfl, h⟩
theorem Rel.call (r : Rel K p st B M F env σ H) : Bs p st B (uni M F) H where
  b := r.bs.b
  f := fun a o h => by
    rcases uni_cases h with h | ⟨_, h⟩
    · exact r.m a o h
    · exact r.bs.f a o h
  d := fun a o h => by
    rcases uni_cases h with h | ⟨_, h⟩
    · exact (r.md a o h).1
    · exact r.bs.d a o h
  pf := by
    cases e : uni M F p with
    | none => rfl
    | some o =>
      rcases uni_cases e with h | ⟨_, h⟩
      · exact absurd rfl (r.md p o h).2.2
      · rw [r.bs.pf] at h
        cases h
  pb := r.bs.pb
  pl := r.bs.pl
  ce := r.bs.ce.up (fun k a hk => ⟨(r.bs.ce.b k a hk).1, by rw [uni_r (r.mc k a hk)]; exact (r.bs.ce.b k a hk).2.1⟩) (fun _ _ _ => rfl) (fun q hq => ⟨(r.bs.ce.tn q hq).1, by rw [uni_r (r.mt q hq)]; exact (r.bs.ce.tn q hq).2⟩) fun z => z
theorem Rel.back {st' : Pl} {B' H' : Hp} (r : Rel K p st B M F env σ H) (e : Ex B B') (w : Bs p st' B' (uni M F) H') : Rel K p st' B' M F env σ H' where
  bs := ⟨w.b, fun a o h => w.f a o (by
      cases e1 : M a with
      | none => rw [uni_r e1]; exact h
      | some u =>
        have := (r.md a u e1).2.1
        rw [this] at h
        cases h), fun a o h => w.d a o (by
      cases e1 : M a with
      | none => rw [uni_r e1]; exact h
      | some u =>
        have := (r.md a u e1).2.1
        rw [this] at h
        cases h), r.bs.pf, w.pb, w.pl, w.ce.up (fun k a hk => ⟨(w.ce.b k a hk).1, (r.bs.ce.b k a hk).2.1⟩) (fun _ _ _ => rfl) (fun q hq => ⟨(w.ce.tn q hq).1, (r.bs.ce.tn q hq).2⟩) fun z => z⟩
  m := fun a o h => w.f a o (uni_l h)
  md := fun a o h => ⟨w.d a o (uni_l h), (r.md a o h).2⟩
  mc := r.mc
  mt := r.mt
  en := r.en.mono e
end
end Ip

set_option Elab.async false
set_option linter.all false
set_option maxRecDepth 100000
set_option maxHeartbeats 4000000
namespace Ip
open PySem L2
/-- one sign k times -/
def repS (s : Str) (k : Int) : Str := ⟨Array.replicate k.toNat (s.cps.getD 0 0)⟩
theorem reps_foldl (c : Nat) : ∀ (n : Nat) (acc : Array Nat), (List.replicate n #[c]).foldl (· ++ ·) acc = acc ++ Array.replicate n c
  | 0, acc => by simp
  | n + 1, acc => by
    rw [List.replicate_succ, List.foldl_cons, reps_foldl c n]
    apply Array.toList_inj.mp
    simp [List.replicate_succ]
theorem sign_of {s : Str} (h : s.length = 1) : s.cps = #[s.cps.getD 0 0] := by
  obtain ⟨a⟩ := s
  have h : a.size = 1 := h
  obtain ⟨l⟩ := a
  match l, h with
  | [x], _ => rfl
theorem mul_reps {s : Str} {k : Int} (h : s.length = 1) : Txt.mul s k = repS s k := by
  have hs := sign_of h
  unfold Txt.mul repS
  have h0 : (s.length == 0) = false := by rw [h]; rfl
  rw [h0]
  by_cases h1 : k < 1
  · rw [if_pos h1, show k.toNat = 0 by omega]
    rfl
  · rw [if_neg h1]
    by_cases h2 : k = 1
    · subst h2
      simp only [beq_self_eq_true, Bool.true_or, if_true]
      obtain ⟨a⟩ := s
      have hs : a = #[a.getD 0 0] := hs
      show (⟨a⟩ : Str) = ⟨Array.replicate 1 (a.getD 0 0)⟩
      conv => lhs; rw [hs]
      rfl
    · have h3 : (k == 1) = false := by simpa using h2
      rw [h3, if_neg (by simp)]
      congr 1
      conv => lhs; rw [hs]
      rw [reps_foldl]
      simp
section
variable {X : Cx}
theorem op_mul_sgn : OpR X (binaryOp .Mult) (fun x y H Q => ∃ s k, x = .str s ∧ y = .int k ∧ s.length = 1 ∧ -1000 ≤ k ∧ k ≤ 1000 ∧ Q (.str (repS s k)) H) := by
  intro pins s σ H x y v u Q I rx ry h
  obtain ⟨z, k, rfl, rfl, hl, h1, h2, q⟩ := h
  obtain ⟨t, rfl⟩ := rx
  obtain ⟨t', rfl⟩ := ry
  refine SB.mul ⟨?_, fun h3 _ => ?_, fun h3 _ => ?_⟩ fun a b => ⟨.str (repS z k), H, I.tok _, ⟨a, by rw [mul_reps hl]⟩, q⟩
  · simp only [Bool.or_eq_false_iff, decide_eq_false_iff_not]
    omega
  · rw [hl]
    have : (1 : Int) ≤ (2 ^ 63 - 1) / k := by
      rw [Int.le_ediv_iff_mul_le (by omega)]
      omega
    omega
  · rw [hl]
    have : k.toNat ≤ 1000 := by omega
    have h5 : 1000 ≤ sizeLine := by decide
    unfold Builtin.Str.tooLong
    simp
    omega
end
section
variable {prog : Program} {w : World} {A : Around} {E : Value → Shared → Prop} {s : Shared}
open PyProof.Rows Builtin Builtin.Float
/-- {x:..} of a text, where it is made longer -/
def strSpc (sp z : Str) : Option Str := if sp.length ≠ 0 ∧ ((sp.cps.toList.drop 1).any (· ≥ 128) || (sp.cps.getD 0 0 ≥ 128 && !([60, 62, 61, 94] : List Nat).contains (sp.cps.getD 1 0))) = false ∧ sp.cps.back? ≠ some 0 ∧ sp.length ≤ 1000 then (match parseFormatSpec sp.cps.toList "str" 60 with
  | .ok f => if f.width.getD 0 ≤ 1000 then (match Builtin.Str.strField z f "str" with
    | .ok (some r) => if r.length ≤ 100000 then some r else none
    | _ => none) else none
  | .error _ => none) else none
end
end Ip

set_option Elab.async false
set_option linter.all false
set_option maxRecDepth 100000
set_option maxHeartbeats 4000000
namespace Ip
open PySem L2
inductive Cst where
  | non | bl (b : Bool) | int (i : Int) | str (s : Str)
inductive Bop where
  | add | sub | mul | fdv | mod | pow
inductive Bi where
  | len | int | str | tuple | list | all | any
inductive Ty where
  | int | bool | str | list | tuple
inductive Cop where
  | eq | ne | lt | le | gt | ge | isin | notin | isN | noN
/-- methods of texts -/
inductive M0 where
  | lower | upper
inductive M1 where
  | removeprefix | join | partition
mutual
inductive IE where
  | var (i : Nat)
  | cst (c : Cst)
  | call (f : Str) (as : IEs)
  | bi (f : Bi) (as : IEs)
  | bin (o : Bop) (a b : IE)
  | cmp (o : Cop) (a b : IE)
  | and (a b : IE)
  | or (a b : IE)
  | not (a : IE)
  | neg (a : IE)
  | tup (es : IEs)
  | lst (es : IEs)
  | ix (a b : IE)
  | sl (a : IE) (lo hi : IO)
  | ifx (c a b : IE)
  | lc (j : Nat) (it : IT) (cs : IEs) (e : IE)
  | olen (i : Nat)
  | pix (i k : Nat)
  | pcel (i : Nat)
  | plen (i : Nat)
  | isi (t : Ty) (e : IE)
  | lent (is : List Nat) (e : IE)
  | lento (is : List Nat) (e : IE)
  | chn (o1 o2 : Cop) (a b c : IE)
  | js (es : IEs)
  | rev (e : IE)
  | exf (j : Nat) (cs : List Str)
  | exi (j : Nat) (cs yes : List Str)
  | con (d : D)
  | qt (e : IE)
  | calld (f : Str) (as : IEs) (cs : List Cst)
  | me0 (m : M0) (e : IE)
  | me1 (m : M1) (a b : IE)
  | tsr (i : Nat)
  | clen (i : Nat)
  | cix (i : Nat) (e : IE)
  | stop
  | mx2 (a b : IE)
  | mn2 (a b : IE)
  | mxl (e : IE) (d : Option Int)
  | srt (e : IE)
  | tru (e : IE)
  | rep (a b : IE)
  | callx (f : Str) (as : IEs)
  | lentc (is : List Nat) (e : IE)
  | lcm (js : List Nat) (it : IT) (cs : IEs) (e : IE)
  | fmt (sp : Str) (e : IE)
  | kin (neg : Bool) (tab : List (Str × D)) (e : IE)
  | kget (tab : List (Str × D)) (e : IE)
  | mink (e ib : IE)
  | dkin (neg : Bool) (i : Nat) (e : IE)
  | dkget (i : Nat) (e : IE)
  | rpl (y z : Str) (e : IE)
  | fld (c f : Str) (e : IE)
  | dcin (neg : Bool) (i : Nat) (e : IE)
  | dcget (i : Nat) (e : IE)
  | dcgt1 (i : Nat) (e : IE)
  | dcgt2 (i : Nat) (e x : IE)
  | dclen (i : Nat)
  | dckeys (i : Nat)
  | oix (i : Nat) (e : IE)
  | tcin (neg : Bool) (i : Nat) (e : IE)
  | tcget (i : Nat) (e : IE)
  | tcgt1 (i : Nat) (e : IE)
  | tclen (i : Nat)
  | osl (i : Nat) (lo hi : IO)
  | oidx (i : Nat) (e g : IE)
  | oin (neg : Bool) (i : Nat) (e : IE)
  | rgl (a b : IE)
  | dsp (gs : List (Str × Str)) (o : IE) (as : IEs)
  | lset (e : IE)
  | srset (e : IE)
  | cntx (e x : IE)
inductive IEs where
  | nil
  | cons (e : IE) (es : IEs)
  | pool (i : Nat) (es : IEs)
  | cell (i : Nat) (es : IEs)
  | newl (e : IE) (es : IEs)
  | newc (its es : IEs)
  | copy (i : Nat) (es : IEs)
inductive IO where
  | non
  | some (e : IE)
inductive IT where
  | seq (e : IE)
  | rng1 (e : IE)
  | rng2 (a b : IE)
  | rng3 (a b : IE)
  | enm (e : IE)
  | zp (a b : IE)
  | dkeys (i : Nat)
end
inductive Sg where
  | one (j : Nat)
  | many (js : List Nat)
  | nest (j : Nat) (js : List Nat)
mutual
inductive IS where
  | set (i : Nat) (e : IE)
  | own (i : Nat) (e : IE)
  | unp (js : List Nat) (e : IE)
  | app (i : Nat) (e : IE)
  | ext (i : Nat) (e : IE)
  | pput (i k : Nat) (e : IE)
  | iff (c : IE) (a b : ISs)
  | ifr (e : IE) (a b : ISs)
  | forr (j : Sg) (it : IT) (b : ISs)
  | ret (e : IE)
  | retN
  | drop (e : IE)
  | brk
  | cnt
  | frz (is : List Nat) (s : IS)
  | aug (i : Nat) (o : Bop) (e : IE)
  | stop
  | rse (c : Str) (e : IE)
  | tri (b : ISs) (cs : List Str) (j : Nat) (u : ISs)
  | calm (s : IS)
  | whl (c : IE)
  | ownl (is : List Nat) (j : Nat) (e : IE)
  | retf (e : IE)
  | dropc (f : Str) (as : IEs) (i : Nat)
  | setf (j : Nat) (f : Str) (as : IEs)
  | oset (i k : Nat) (e : IE)
  | capp (i : Nat) (e : IE)
  | cset (i j : Nat) (e : IE)
  | cnew (j : Nat) (e : IE) (r : ISs)
  | cal (j i m : Nat)
  | hid (j : Nat)
  | dset (j : Nat) (tab : List (Str × D))
  | oseti (i : Nat) (a e : IE)
  | tnew (j : Nat)
  | tput (j : Nat) (a e : IE)
  | opop (j i : Nat) (e : IE) (k : Int)
  | omov (i : Nat) (g a : IE)
  | orem (i : Nat) (e : IE)
  | oaug (i : Nat) (a : IE) (o : Bop) (e : IE)
  | dnew (j : Nat)
  | dput (j : Nat) (a e : IE)
  | lockd (is : List Nat)
  | odc (j x : Nat) (it : IT) (cs : IEs) (k e : IE)
  | whr (c : IE) (b : ISs)
inductive ISs where
  | nil
  | cons (s : IS) (r : ISs)
end
abbrev Cl := Str → List (Option D) → Pl → Option (D × Pl)
def Cst.d : Cst → D
  | .non => .none
  | .bl b => .bool b
  | .int i => .int i
  | .str s => .str s
def most : Nat := 100000
def binD : Bop → D → D → Option D
  | .add, .int i, .int j => some (.int (i + j))
  | .add, .str s, .str t => if s.length + t.length ≤ most then some (.str (s ++ t)) else none
  | .add, .list xs, .list ys => if xs.length + ys.length ≤ most then some (.list (xs ++ ys)) else none
  | .add, .tuple xs, .tuple ys => if xs.length + ys.length ≤ most then some (.tuple (xs ++ ys)) else none
  | .sub, .int i, .int j => some (.int (i - j))
  | .mul, .int i, .int j => if i.natAbs < 2 ^ 64 ∨ j.natAbs < 2 ^ 64 then some (.int (i * j)) else none
  | .mul, .str s, .int k => if s.length = 1 ∧ -1000 ≤ k ∧ k ≤ 1000 then some (.str (repS s k)) else none
  | .fdv, .int i, .int j => if 0 < j ∧ j < 1073741824 then some (.int (i / j)) else none
  | .mod, .int i, .int j => if 0 < j then some (.int (i % j)) else none
  | .pow, .int i, .int j => if 0 ≤ j ∧ j ≤ 64 ∧ i.natAbs < 2 ^ 64 then some (.int (i ^ j.toNat)) else none
  | _, _, _ => none
def flatD : D → Bool
  | .none => true
  | .bool _ => true
  | .int _ => true
  | .str _ => true
  | _ => false
def memD (x : D) (ys : List D) : Bool := ys.any fun y => PyData.eqv y x
def inD (x : D) : D → Option Bool
  | .list ys => if flatD x = true ∧ ys.all flatD = true then some (memD x ys) else if SeqAt.shaped x = true ∧ SeqAt.shaped (.list ys) = true then some (memD x ys) else none
  | .tuple ys => if flatD x = true ∧ ys.all flatD = true then some (memD x ys) else none
  | .str t => match x with
    | .str s => if s.length = 1 then some (decide (s.cps.getD 0 0 ∈ t.cps.toList)) else none
    | _ => none
  | _ => none
def eqD : D → D → Option Bool
  | .str s, .str t => some (decide (s = t))
  | .int i, .int j => some (decide (i = j))
  | .bool a, .bool b => some (decide (a = b))
  | .int _, .str _ => some false
  | .str _, .int _ => some false
  | x, y => if SeqAt.shaped x = true ∧ SeqAt.shaped y = true then some (PyData.eqv x y) else none
def cmpD : Cop → D → D → Option Bool
  | .eq, x, y => eqD x y
  | .ne, x, y => (eqD x y).map (!·)
  | .lt, .int i, .int j => some (decide (i < j))
  | .le, .int i, .int j => some (decide (i ≤ j))
  | .gt, .int i, .int j => some (decide (j < i))
  | .ge, .int i, .int j => some (decide (j ≤ i))
  | .isin, x, y => inD x y
  | .notin, x, y => (inD x y).map (!·)
  | .isN, .none, .none => some true
  | .isN, _, .none => some false
  | .noN, .none, .none => some false
  | .noN, _, .none => some true
  | _, _, _ => none
def ixD : D → D → Option D
  | .list xs, .int i => atI xs i
  | .tuple xs, .int i => atI xs i
  | .str s, .int i => if s.length ≤ most then (atI s.cps.toList i).map fun c => .str ⟨#[c]⟩ else none
  | _, _ => none
def cutD (xs : List D) (lo hi : Option Int) : List D := (xs.drop (HT.sIx xs.length 0 lo)).take (HT.sIx xs.length xs.length hi - HT.sIx xs.length 0 lo)
def slD : D → Option Int → Option Int → Option D
  | .list xs, lo, hi => some (.list (cutD xs lo hi))
  | .tuple xs, lo, hi => some (.tuple (cutD xs lo hi))
  | .str s, lo, hi => if s.length ≤ most then some (.str (cutS s lo hi)) else none
  | _, _, _ => none
/-- truths alone -/
def boolsD : List D → Option (List Bool)
  | [] => some []
  | .bool b :: r => (boolsD r).map fun bs => b :: bs
  | _ => none
/-- what stands in an f-string -/
def partD : D → Option Str
  | .str s => if s.length ≤ most then some s else none
  | .int i => if i.natAbs.log2 < 1920 then some (Str.ofString (toString i)) else none
  | _ => none
def joinD : List D → Str → Option Str
  | [], acc => some acc
  | d :: r, acc => match partD d with
    | some s => if (acc ++ s).length ≤ most then joinD r (acc ++ s) else none
    | none => none
/-- the built-ins that are served -/
def biD : Bi → List D → Option D
  | .len, [.list xs] => some (.int xs.length)
  | .len, [.tuple xs] => some (.int xs.length)
  | .len, [.str s] => if s.length ≤ most then some (.int s.length) else none
  | .int, [.int i] => some (.int i)
  | .int, [.bool b] => some (.int (if b then 1 else 0))
  | .int, [.str s] => (match PySem.intText? s with
    | some n => if s.length ≤ 640 then some (.int n) else none
    | none => none)
  | .str, [.int i] => if i.natAbs.log2 < 1920 then some (.str (toString i)) else none
  | .tuple, [.list xs] => some (.tuple xs)
  | .tuple, [.tuple xs] => some (.tuple xs)
  | .list, [.list xs] => some (.list xs)
  | .list, [.tuple xs] => some (.list xs)
  | .all, [.list xs] => (boolsD xs).map fun bs => .bool (bs.all id)
  | .any, [.list xs] => (boolsD xs).map fun bs => .bool (bs.any id)
  | _, _ => none
/-- {x:..} in an f-string -/
def fmtD (sp : Str) : D → Option Str
  | .int n => if PyProof.Rows.intSpecOk sp = true ∧ n.natAbs.log2 < 1920 then some (PyProof.Rows.intSpecTextOf sp n) else none
  | .str s => if s.length ≤ most then strSpc sp s else none
  | _ => none
def itD : D → Option (List D)
  | .list xs => some xs
  | .tuple xs => some xs
  | _ => none
/-- a text, sign by sign -/
def signsD (s : Str) : List D := s.cps.toList.map fun c => PyData.str ⟨#[c]⟩
def itS : D → Option (List D)
  | .list xs => some xs
  | .tuple xs => some xs
  | .str s => some (signsD s)
  | _ => none
def m0D : M0 → D → Option D
  | .lower, .str s => if s.length ≤ most then some (.str (Txt.lower s)) else none
  | .upper, .str s => if s.length ≤ most then some (.str (Txt.upper s)) else none
  | _, _ => none
def strsD : List D → Option (List Str)
  | [] => some []
  | .str s :: ds => (strsD ds).map fun ss => s :: ss
  | _ => none
/-- texts in their order -/
def srtS (ss : List Str) : List Str := ss.mergeSort fun a b => !PySem.Spec.ltCps b.cps.toList a.cps.toList
def srtD (ds : List D) : Option D := match strsD ds with
  | some ss => if ss.length < 64 then some (.tuple ((srtS ss).map PyData.str)) else none
  | none => none
def m1D : M1 → D → D → Option D
  | .removeprefix, .str s, .str t => if s.length ≤ most then some (.str (Txt.removeprefix s t)) else none
  | .partition, .str s, .str t => if s.length ≤ most ∧ (t.length == 0) = false then some (.tuple [.str (Txt.partition s t).1, .str (Txt.partition s t).2.1, .str (Txt.partition s t).2.2]) else none
  | .join, .str s, .list ds => (match strsD ds with
    | some ys => if (ys.map (·.length)).sum + ys.length * s.length ≤ 16777216 then some (.str (Txt.join s ys)) else none
    | none => none)
  | _, _, _ => none
def rngD (lo hi : Int) : Option (List D) := if -(2 ^ 62) ≤ lo ∧ lo < 2 ^ 62 ∧ -(2 ^ 62) ≤ hi ∧ hi < 2 ^ 62 then some ((List.range (hi - lo).toNat).map fun (k : Nat) => PyData.int (lo + (k : Int))) else none
def lcG (f : D → Pl → Option (Option D × Pl)) : List D → Pl → Option (List D × Pl)
  | [], st => some ([], st)
  | d :: ds, st => match f d st with
    | some (none, st1) => lcG f ds st1
    | some (some e, st1) => (match lcG f ds st1 with
      | some (es, st2) => some (e :: es, st2)
      | none => none)
    | none => none
def Pl.at_ (s : Pl) : Nat → Option Int
  | 1 => some s.i
  | 2 => some s.r
  | 3 => some s.c
  | 4 => some s.l
  | _ => none
def Pl.put (s : Pl) (n : Int) : Nat → Option Pl
  | 1 => some { s with i := n }
  | 2 => some { s with r := n }
  | 3 => some { s with c := n }
  | 4 => some { s with l := n }
  | _ => none
def isiD : Ty → D → Bool
  | .int, .int _ => true
  | .int, .bool _ => true
  | .bool, .bool _ => true
  | .str, .str _ => true
  | .list, .list _ => true
  | .tuple, .tuple _ => true
  | _, _ => false
/-- the greatest of whole numbers -/
def intsD : List D → Option (List Int)
  | [] => some []
  | .int n :: r => (intsD r).map fun ns => n :: ns
  | _ => none
def maxI : List Int → Option Int → Option Int
  | [], d => d
  | n :: ns, _ => some (ns.foldl max n)
/-- what can be put in order -/
def tupD : D → Bool
  | .tuple (_ :: _) => true
  | _ => false
def plnD : D → Bool
  | .none => false
  | .tuple _ => false
  | _ => true
/-- tuples, the first one empty -/
def tup0 : List D → Bool
  | .tuple [] :: r => r.all fun d => match d with
    | .tuple _ => true
    | _ => false
  | _ => false
def sortOk (ds : List D) : Bool := (ds.all fun d => ds.all fun e => PySem.W.alike d e) && (ds.all tupD || ds.all plnD || tup0 ds) && decide (ds.length ≤ most) && (ds.all fun d => decide (d.depth ≤ 50)) && ds.all noObj
theorem sortOk_obj {ds : List D} (h : sortOk ds = true) : noObjs ds = true := noObjs_all (Bool.and_eq_true_iff.mp h).2
def srtA (ds : List D) : List D := ds.mergeSort (PySem.W.dataLe false id)
def truD : D → Option Bool
  | .list xs => some !xs.isEmpty
  | .tuple xs => some !xs.isEmpty
  | .int n => some (n != 0)
  | _ => none
/-- an instance's attribute -/
def lkD (f : Str) : List (D × D) → Option D
  | (.str g, d) :: r => if f = g then some d else lkD f r
  | _ => none
/-- is it an instance of the class; of an own class that is not told of nothing is said -/
def isaD (c : Str) : D → Option Bool
  | .dict ((.str c', .none) :: _) => if c' = c then some true else if obNs.contains c' = true then some false else none
  | .dict _ => none
  | _ => some false
/-- the name by which isinstance is asked -/
def isaN : Str := "?"
def fldD (c f : Str) (d : D) : Option D := if f = isaN then (isaD c d).map PyData.bool else (match d with
  | .dict ((.str c', .none) :: ps) => if c' = c then lkD f ps else none
  | _ => none)
/-- an instance of it, with these attributes -/
def keysD : List Str → List (D × D) → Bool
  | [], [] => true
  | f :: fs, (.str g, _) :: r => f == g && keysD fs r
  | _, _ => false
def isOb (c : Str) (fs : List Str) : D → Bool
  | .dict ((.str c', .none) :: ps) => c' == c && keysD fs ps
  | _ => false
/-- the class of an instance -/
def clsD : D → Option Str
  | .dict ((.str c, .none) :: _) => some c
  | _ => none
def mkOb (c : Str) (fs : List Str) (ds : List D) : D := .dict ((.str c, .none) :: (fs.map PyData.str).zip ds)
/-- downwards -/
def rngN (lo hi : Int) : Option (List D) := if -(2 ^ 62) ≤ lo ∧ lo < 2 ^ 62 ∧ -(2 ^ 62) ≤ hi ∧ hi < 2 ^ 62 then some ((List.range (lo - hi).toNat).map fun (i : Nat) => PyData.int (lo - (i : Int))) else none
def enD : Nat → List D → List D
  | _, [] => []
  | k, d :: ds => .tuple [.int k, d] :: enD (k + 1) ds
def zpD (xs ys : List D) : List D := List.zipWith (fun x y => .tuple [x, y]) xs ys
def setMany : List Nat → List D → List Sl → Option (List Sl)
  | [], [], env => some env
  | j :: js, d :: ds, env => setMany js ds (env.set j (.im d))
  | _, _, _ => none
def frzS : Sl → Sl
  | .ow ds => .im (.list ds)
  | s => s
def frzE (env : List Sl) : List Nat → List Sl
  | [] => env
  | i :: is => frzE (env.modify i frzS) is
/-- a def that changes the list it is handed last, by this name -/
def ioN (f : Str) : Str := ⟨f.cps.push 64⟩
/-- what such a list may be made of -/
def cellD : List (Option D) → Option (List D)
  | [] => some []
  | some (.dict [(.none, .int k)]) :: r => (cellD r).map fun ds => .dict [(.none, .int k)] :: ds
  | some d :: r => if flatD d = true then (cellD r).map fun ds => d :: ds else none
  | none :: _ => none
/-- the lists that are handed about, as what they hold; the others out of sight -/
def calS (cs : List (List D)) : Sl → Sl
  | .ce _ => .no
  | s => s
def datS (cs : List (List D)) : Sl → Option Sl
  | .ce k => (match cs[k]? with
    | some ds => if ds.all flatD = true then some (.im (.list ds)) else none
    | none => none)
  | _ => none
def datE (cs : List (List D)) (env : List Sl) : List Nat → Option (List Sl)
  | [] => some (env.map (calS cs))
  | i :: is => (match datE cs env is with
    | some e1 => (match env[i]? with
      | some s => (datS cs s).map fun z => e1.set i z
      | none => none)
    | none => none)
mutual
def sameD : D → D → Bool
  | .none, .none => true
  | .bool a, .bool b => decide (a = b)
  | .int a, .int b => decide (a = b)
  | .str a, .str b => decide (a = b)
  | .list xs, .list ys => sameDs xs ys
  | .tuple xs, .tuple ys => sameDs xs ys
  | .dict xs, .dict ys => samePs xs ys
  | _, _ => false
def sameDs : List D → List D → Bool
  | [], [] => true
  | x :: xs, y :: ys => sameD x y && sameDs xs ys
  | _, _ => false
def samePs : List (D × D) → List (D × D) → Bool
  | [], [] => true
  | (a, b) :: xs, (c, d) :: ys => sameD a c && (sameD b d && samePs xs ys)
  | _, _ => false
end
mutual
theorem sameD_refl : ∀ x : D, sameD x x = true
  | .none => rfl
  | .bool a => decide_eq_true rfl
  | .int a => decide_eq_true rfl
  | .str a => decide_eq_true rfl
  | .list xs => sameDs_refl xs
  | .tuple xs => sameDs_refl xs
  | .dict xs => samePs_refl xs
theorem sameDs_refl : ∀ x : List D, sameDs x x = true
  | [] => rfl
  | x :: xs => by
    unfold sameDs
    rw [sameD_refl x, sameDs_refl xs]
    rfl
theorem samePs_refl : ∀ x : List (D × D), samePs x x = true
  | [] => rfl
  | (a, b) :: xs => by
    unfold samePs
    rw [sameD_refl a, sameD_refl b, samePs_refl xs]
    rfl
end
mutual
theorem sameD_eq : ∀ x y : D, sameD x y = true → x = y
  | .none, y, h => by
    cases y <;> first | rfl | cases h
  | .bool a, y, h => by
    cases y <;> first | (rw [of_decide_eq_true h]; done) | cases h
  | .int a, y, h => by
    cases y <;> first | (rw [of_decide_eq_true h]; done) | cases h
  | .str a, y, h => by
    cases y <;> first | (rw [of_decide_eq_true h]; done) | cases h
  | .list xs, y, h => by
    cases y with
    | list ys => rw [sameDs_eq xs ys h]
    | _ => cases h
  | .tuple xs, y, h => by
    cases y with
    | tuple ys => rw [sameDs_eq xs ys h]
    | _ => cases h
  | .dict xs, y, h => by
    cases y with
    | dict ys => rw [samePs_eq xs ys h]
    | _ => cases h
theorem sameDs_eq : ∀ x y : List D, sameDs x y = true → x = y
  | [], y, h => by
    cases y with
    | nil => rfl
    | cons _ _ => cases h
  | x :: xs, y, h => by
    cases y with
    | nil => cases h
    | cons z zs =>
      have h : (sameD x z && sameDs xs zs) = true := h
      rw [Bool.and_eq_true] at h
      rw [sameD_eq x z h.1, sameDs_eq xs zs h.2]
theorem samePs_eq : ∀ x y : List (D × D), samePs x y = true → x = y
  | [], y, h => by
    cases y with
    | nil => rfl
    | cons _ _ => cases h
  | (a, b) :: xs, y, h => by
    cases y with
    | nil => cases h
    | cons z zs =>
      obtain ⟨c, d⟩ := z
      have h : (sameD a c && (sameD b d && samePs xs zs)) = true := h
      rw [Bool.and_eq_true, Bool.and_eq_true] at h
      rw [sameD_eq a c h.1, sameD_eq b d h.2.1, samePs_eq xs zs h.2.2]
end
/-- what may stand in a set; each once -/
def knD : D → Bool
  | .none => true
  | .int _ => true
  | .str _ => true
  | _ => false
def addD (acc : List D) (x : D) : List D := if (acc.any fun y => sameD y x) = true then acc else acc ++ [x]
def dedD (xs : List D) : List D := xs.foldl addD []
def addS (acc : List Str) (x : Str) : List Str := if (acc.any fun y => decide (y = x)) = true then acc else acc ++ [x]
def dedS (xs : List Str) : List Str := xs.foldl addS []
/-- the first place of an equal one, from g on -/
def idxG (x : D) : List D → Nat → Nat → Option Nat
  | [], _, _ => none
  | d :: r, k, g => if g ≤ k ∧ PyData.eqv d x = true then some k else idxG x r (k + 1) g
def isSt (s : Str) : D → Bool
  | .str t => decide (t = s)
  | _ => false
/-- a dict's items, by key -/
def keyV : D → Option L2.Key
  | .int i => some (.inl i)
  | .str s => some (.inr s)
  | _ => none
def dcSl : Sl → Option (List (D × D))
  | .od false tab => some tab
  | .im (.dict ((.bool false, .none) :: tab)) => some tab
  | _ => none
def dGet (y : D) : List (D × D) → Option D
  | [] => none
  | (k, d) :: r => if sameD k y = true then some d else dGet y r
def dPut (tab : List (D × D)) (y x : D) : List (D × D) := if (dGet y tab).isSome = true then tab.map (fun q => if sameD q.1 y = true then (q.1, x) else q) else tab ++ [(y, x)]
def dMk (tab : List (D × D)) : D := .dict ((.bool false, .none) :: tab)
mutual
/-- an instance, a tuple, a flat thing: no list, no dict in it -/
def noLst : D → Bool
  | .list _ => false
  | .tuple xs => noLsts xs
  | .dict ((.str _, .none) :: ps) => noLstP ps
  | .dict _ => false
  | _ => true
def noLsts : List D → Bool
  | [] => true
  | x :: xs => noLst x && noLsts xs
def noLstP : List (D × D) → Bool
  | [] => true
  | (_, x) :: xs => noLst x && noLstP xs
end
def dMkT (tab : List (D × D)) : D := .dict ((.bool true, .none) :: tab)
/-- a tuple of numbers, as a key -/
def keyT : D → Option (List Int)
  | .tuple ds => intsD ds
  | _ => none
def tcSl : Sl → Option (List (D × D))
  | .od true tab => some tab
  | .im (.dict ((.bool true, .none) :: tab)) => some tab
  | _ => none
def frzdS : Sl → Sl
  | .od false tab => .im (dMk tab)
  | .od true tab => .im (dMkT tab)
  | s => s
def frzdE (env : List Sl) : List Nat → List Sl
  | [] => env
  | i :: is => frzdE (env.modify i frzdS) is
/-- a comprehension's pairs -/
def dcG (f : D → Pl → Option (Option (D × D) × Pl)) : List D → List (D × D) → Pl → Option (List (D × D) × Pl)
  | [], tab, st => some (tab, st)
  | d :: ds, tab, st => match f d st with
    | some (none, st1) => dcG f ds tab st1
    | some (some (k, v), st1) => if (keyV k).isSome = true ∧ tab.length < most then dcG f ds (dPut tab k v) st1 else none
    | none => none
def samC : List (List D) → List (List D) → Bool
  | [], [] => true
  | x :: xs, y :: ys => sameDs x y && samC xs ys
  | _, _ => false
def Pl.same (a b : Pl) : Bool := decide (a.ns = b.ns) && (decide (a.i = b.i) && (decide (a.r = b.r) && (decide (a.c = b.c) && (decide (a.l = b.l) && samC a.cs b.cs))))
/-- the keys of a list's items, one by one; the pool stays -/
def keysK (f : D → Option (D × Pl)) (st : Pl) : List D → Option (List Int)
  | [] => some []
  | d :: ds => match f d with
    | some (.int k, st') => if st'.same st = true then (keysK f st ds).map fun ks => k :: ks else none
    | _ => none
/-- the first item whose key is the least -/
def minG : D → Int → List D → List Int → D
  | b, kb, d :: ds, k :: ks => if k < kb then minG d k ds ks else minG b kb ds ks
  | b, _, _, _ => b
def minK : List D → List Int → Option D
  | d :: ds, k :: ks => some (minG d k ds ks)
  | _, _ => none
mutual
def ev (cl : Cl) : IE → List Sl → Pl → Option (D × Pl)
  | .var i, env, st => (match env[i]? with
    | some (.im d) => some (d, st)
    | _ => none)
  | .cst c, _, st => some (c.d, st)
  | .call f as, env, st => (match ag cl as env st with
    | some (ds, st1) => cl f ds st1
    | none => none)
  | .bi f as, env, st => (match ea cl as env st with
    | some (ds, st1) => (biD f ds).map fun d => (d, st1)
    | none => none)
  | .bin o a b, env, st => (match ev cl a env st with
    | some (x, st1) => (match ev cl b env st1 with
      | some (y, st2) => (binD o x y).map fun d => (d, st2)
      | none => none)
    | none => none)
  | .cmp o a b, env, st => (match ev cl a env st with
    | some (x, st1) => (match ev cl b env st1 with
      | some (y, st2) => (cmpD o x y).map fun d => (.bool d, st2)
      | none => none)
    | none => none)
  | .and a b, env, st => (match ev cl a env st with
    | some (.bool true, st1) => ev cl b env st1
    | some (.bool false, st1) => some (.bool false, st1)
    | _ => none)
  | .or a b, env, st => (match ev cl a env st with
    | some (.bool true, st1) => some (.bool true, st1)
    | some (.bool false, st1) => ev cl b env st1
    | _ => none)
  | .not a, env, st => (match ev cl a env st with
    | some (.bool b, st1) => some (.bool (!b), st1)
    | _ => none)
  | .neg a, env, st => (match ev cl a env st with
    | some (.int i, st1) => some (.int (-i), st1)
    | _ => none)
  | .tup es, env, st => (match ea cl es env st with
    | some (ds, st1) => if ds.length ≤ most then some (.tuple ds, st1) else none
    | none => none)
  | .lst es, env, st => (match ea cl es env st with
    | some (ds, st1) => if ds.length ≤ most then some (.list ds, st1) else none
    | none => none)
  | .ix a b, env, st => (match ev cl a env st with
    | some (x, st1) => (match ev cl b env st1 with
      | some (y, st2) => (ixD x y).map fun d => (d, st2)
      | none => none)
    | none => none)
  | .sl a lo hi, env, st => (match ev cl a env st with
    | some (x, st1) => (match eo cl lo env st1 with
      | some (l, st2) => (match eo cl hi env st2 with
        | some (h, st3) => (slD x l h).map fun d => (d, st3)
        | none => none)
      | none => none)
    | none => none)
  | .ifx c a b, env, st => (match ev cl c env st with
    | some (.bool true, st1) => ev cl a env st1
    | some (.bool false, st1) => ev cl b env st1
    | _ => none)
  | .lc j it cs e, env, st => (match ei cl it env st with
    | some (ds, st1) => if ds.length ≤ most then (match lcG (fun d st => match et cl cs (env.set j (.im d)) st with
        | some (true, st2) => (match ev cl e (env.set j (.im d)) st2 with
          | some (y, st3) => some (some y, st3)
          | none => none)
        | some (false, st2) => some (none, st2)
        | none => none) ds st1 with
      | some (ys, st4) => some (.list ys, st4)
      | none => none) else none
    | none => none)
  | .olen i, env, st => (match env[i]? with
    | some (.ow ds) => some (.int ds.length, st)
    | some (.im d) => (biD .len [d]).map fun z => (z, st)
    | _ => none)
  | .pix i k, env, st => (match env[i]? with
    | some .pl => (st.at_ k).map fun n => (.int n, st)
    | _ => none)
  | .pcel i, env, st => (match env[i]? with
    | some .pl => (atI st.ns st.i).map fun n => (.int n, st)
    | _ => none)
  | .isi t e, env, st => (match ev cl e env st with
    | some (x, st1) => some (.bool (isiD t x), st1)
    | none => none)
  | .lent is e, env, st => (match ev cl e (frzE env is) st with
    | some (x, st1) => if flatD x = true then some (x, st1) else none
    | none => none)
  | .lento is e, env, st => (match ev cl e (frzE env is) st with
    | some (x, st1) => if noLst x = true then some (x, st1) else none
    | none => none)
  | .chn o1 o2 a b c, env, st => (match ev cl a env st with
    | some (x, st1) => (match ev cl b env st1 with
      | some (y, st2) => (match cmpD o1 x y with
        | some true => (match ev cl c env st2 with
          | some (z, st3) => (cmpD o2 y z).map fun d => (.bool d, st3)
          | none => none)
        | some false => some (.bool false, st2)
        | none => none)
      | none => none)
    | none => none)
  | .js es, env, st => (match ea cl es env st with
    | some (ds, st1) => (joinD ds Str.empty).map fun s => (.str s, st1)
    | none => none)
  | .rev e, env, st => (match ev cl e env st with
    | some (.list xs, st1) => some (.list xs.reverse, st1)
    | some (.tuple xs, st1) => some (.tuple xs.reverse, st1)
    | _ => none)
  | .con d, _, st => some (d, st)
  | .qt e, env, st => ev cl e env st
  | .calld f as cs, env, st => (match ag cl as env st with
    | some (ds, st1) => cl f (ds ++ cs.map fun c => some c.d) st1
    | none => none)
  | .me0 m e, env, st => (match ev cl e env st with
    | some (x, st1) => (m0D m x).map fun d => (d, st1)
    | none => none)
  | .me1 m a b, env, st => (match ev cl a env st with
    | some (x, st1) => (match ev cl b env st1 with
      | some (y, st2) => (m1D m x y).map fun d => (d, st2)
      | none => none)
    | none => none)
  | .exf j cs, env, st => (match env[j]? with
    | some (.er c v) => if c ∈ cs then some (v, st) else none
    | _ => none)
  | .exi j cs yes, env, st => (match env[j]? with
    | some (.er c _) => if c ∈ cs then some (.bool (decide (c ∈ yes)), st) else none
    | _ => none)
  | .tsr i, env, st => (match env[i]? with
    | some (.ow ds) => (srtD ds).map fun z => (z, st)
    | _ => none)
  | .callx f as, env, st => (match agx cl as env st with
    | some (ds, st1) => (match cl f ds st1 with
      | some (d, st2) => some (d, { st2 with cs := st2.cs.take st.cs.length })
      | none => none)
    | none => none)
  | .lentc is e, env, st => (match datE st.cs env is with
    | some env1 => (match ev cl e env1 { st with cs := [] } with
      | some (x, st1) => if flatD x = true then some (x, { st1 with cs := st.cs }) else none
      | none => none)
    | none => none)
  | .clen i, env, st => (match env[i]? with
    | some (.ce k) => (match st.cs[k]? with
      | some ds => some (.int ds.length, st)
      | none => none)
    | _ => none)
  | .cix i e, env, st => (match ev cl e env st with
    | some (.int n, st1) => (match env[i]? with
      | some (.ce k) => (match st1.cs[k]? with
        | some ds => (match atI ds n with
          | some d => if flatD d = true then some (d, st1) else none
          | none => none)
        | none => none)
      | _ => none)
    | _ => none)
  | .stop, _, _ => none
  | .mx2 a b, env, st => (match ev cl a env st with
    | some (.int x, st1) => (match ev cl b env st1 with
      | some (.int y, st2) => some (.int (if y > x then y else x), st2)
      | _ => none)
    | _ => none)
  | .mn2 a b, env, st => (match ev cl a env st with
    | some (.int x, st1) => (match ev cl b env st1 with
      | some (.int y, st2) => some (.int (if y < x then y else x), st2)
      | _ => none)
    | _ => none)
  | .mxl e d, env, st => (match ev cl e env st with
    | some (.list xs, st1) => (match intsD xs with
      | some ns => (maxI ns d).map fun n => (.int n, st1)
      | none => none)
    | _ => none)
  | .srt e, env, st => (match ev cl e env st with
    | some (.list xs, st1) => if sortOk xs = true then some (.list (srtA xs), st1) else none
    | _ => none)
  | .tru e, env, st => (match ev cl e env st with
    | some (x, st1) => (truD x).map fun b => (.bool b, st1)
    | none => none)
  | .rep a b, env, st => (match ev cl a env st with
    | some (.list xs, st1) => (match ev cl b env st1 with
      | some (.int k, st2) => if -(2 ^ 62) ≤ k ∧ k < 2 ^ 62 ∧ xs.length * k.toNat ≤ most then some (.list (List.replicate k.toNat xs).flatten, st2) else none
      | _ => none)
    | _ => none)
  | .lcm js it cs e, env, st => (match ei cl it env st with
    | some (ds, st1) => if ds.length ≤ most then (match lcG (fun d st => match itD d with
        | some zs => (match setMany js zs env with
          | some env1 => (match et cl cs env1 st with
            | some (true, st2) => (match ev cl e env1 st2 with
              | some (y, st3) => some (some y, st3)
              | none => none)
            | some (false, st2) => some (none, st2)
            | none => none)
          | none => none)
        | none => none) ds st1 with
      | some (ys, st4) => some (.list ys, st4)
      | none => none) else none
    | none => none)
  | .plen i, env, st => (match env[i]? with
    | some .pl => some (.int st.ns.length, st)
    | _ => none)
  | .fmt sp e, env, st => (match ev cl e env st with
    | some (x, st1) => (fmtD sp x).map fun s => (.str s, st1)
    | none => none)
  | .kin neg tab e, env, st => (match ev cl e env st with
    | some (.str s, st1) => some (.bool (neg != (tab.lookup s).isSome), st1)
    | _ => none)
  | .kget tab e, env, st => (match ev cl e env st with
    | some (.str s, st1) => (tab.lookup s).map fun d => (d, st1)
    | _ => none)
  | .mink e ib, env, st => (match ev cl e env st with
    | some (.list xs, st1) => (match keysK (fun d => ev cl ib [.im d] st1) st1 xs with
      | some ks => (minK xs ks).map fun d => (d, st1)
      | none => none)
    | _ => none)
  | .dkin neg i e, env, st => (match ev cl e env st with
    | some (.str s, st1) => (match env[i]? with
      | some (.dk tab) => some (.bool (neg != (tab.lookup s).isSome), st1)
      | _ => none)
    | _ => none)
  | .dkget i e, env, st => (match ev cl e env st with
    | some (.str s, st1) => (match env[i]? with
      | some (.dk tab) => (tab.lookup s).map fun d => (d, st1)
      | _ => none)
    | _ => none)
  | .rpl y z e, env, st => (match ev cl e env st with
    | some (.str s, st1) => if s.length ≤ most ∧ z.length ≤ 4 then some (.str (Txt.replace s y z), st1) else none
    | _ => none)
  | .fld c f e, env, st => (match ev cl e env st with
    | some (x, st1) => (fldD c f x).map fun d => (d, st1)
    | none => none)
  | .dcin neg i e, env, st => (match ev cl e env st with
    | some (x, st1) => (match env[i]? with
      | some s => (match dcSl s with
        | some tab => if (keyV x).isSome = true then some (.bool (neg != (dGet x tab).isSome), st1) else none
        | none => none)
      | none => none)
    | none => none)
  | .dcget i e, env, st => (match ev cl e env st with
    | some (x, st1) => (match env[i]? with
      | some s => (match dcSl s with
        | some tab => if (keyV x).isSome = true then (dGet x tab).map fun d => (d, st1) else none
        | none => none)
      | none => none)
    | none => none)
  | .dcgt1 i e, env, st => (match ev cl e env st with
    | some (x, st1) => (match env[i]? with
      | some s => (match dcSl s with
        | some tab => if (keyV x).isSome = true then some ((dGet x tab).getD .none, st1) else none
        | none => none)
      | none => none)
    | none => none)
  | .dcgt2 i e x, env, st => (match ev cl e env st with
    | some (y, st1) => (match ev cl x env st1 with
      | some (z, st2) => (match env[i]? with
        | some s => (match dcSl s with
          | some tab => if (keyV y).isSome = true then some ((dGet y tab).getD z, st2) else none
          | none => none)
        | none => none)
      | none => none)
    | none => none)
  | .dclen i, env, st => (match env[i]? with
    | some s => (match dcSl s with
      | some tab => some (.int tab.length, st)
      | none => none)
    | none => none)
  | .dckeys i, env, st => (match env[i]? with
    | some s => (match dcSl s with
      | some tab => some (.list (tab.map (·.1)), st)
      | none => none)
    | none => none)
  | .oix i e, env, st => (match ev cl e env st with
    | some (y, st1) => (match env[i]? with
      | some (.ow ds) => (ixD (.list ds) y).map fun d => (d, st1)
      | _ => none)
    | none => none)
  | .tcin neg i e, env, st => (match ev cl e env st with
    | some (x, st1) => (match env[i]? with
      | some s => (match tcSl s with
        | some tab => if (keyT x).isSome = true then some (.bool (neg != (dGet x tab).isSome), st1) else none
        | none => none)
      | none => none)
    | none => none)
  | .tcget i e, env, st => (match ev cl e env st with
    | some (x, st1) => (match env[i]? with
      | some s => (match tcSl s with
        | some tab => if (keyT x).isSome = true then (dGet x tab).map fun d => (d, st1) else none
        | none => none)
      | none => none)
    | none => none)
  | .tcgt1 i e, env, st => (match ev cl e env st with
    | some (x, st1) => (match env[i]? with
      | some s => (match tcSl s with
        | some tab => if (keyT x).isSome = true then some ((dGet x tab).getD .none, st1) else none
        | none => none)
      | none => none)
    | none => none)
  | .tclen i, env, st => (match env[i]? with
    | some s => (match tcSl s with
      | some tab => some (.int tab.length, st)
      | none => none)
    | none => none)
  | .osl i lo hi, env, st => (match env[i]? with
    | some (.ow ds) => (match eo cl lo env st with
      | some (l, st2) => (match eo cl hi env st2 with
        | some (h, st3) => (slD (.list ds) l h).map fun d => (d, st3)
        | none => none)
      | none => none)
    | _ => none)
  | .oidx i e g, env, st => (match ev cl e env st with
    | some (x, st1) => (match ev cl g env st1 with
      | some (.int n, st2) => (match env[i]? with
        | some (.ow ds) => if 0 ≤ n ∧ PySem.SeqAt.shaped x = true ∧ PySem.SeqAt.shaped (.list ds) = true then (idxG x ds 0 n.toNat).map fun j => (.int (j : Nat), st2) else none
        | _ => none)
      | _ => none)
    | none => none)
  | .oin neg i e, env, st => (match ev cl e env st with
    | some (x, st1) => (match env[i]? with
      | some (.ow ds) => if PySem.SeqAt.shaped x = true ∧ PySem.SeqAt.shaped (.list ds) = true then some (.bool (neg != memD x ds), st1) else none
      | _ => none)
    | none => none)
  | .rgl a b, env, st => (match ev cl a env st with
    | some (.int lo, st1) => (match ev cl b env st1 with
      | some (.int hi, st2) => (rngN lo hi).bind fun xs => if xs.length ≤ most then some (.list xs, st2) else none
      | _ => none)
    | _ => none)
  | .dsp gs o as, env, st => (match ev cl o env st with
    | some (x, st1) => (match clsD x with
      | some c => (match gs.lookup c with
        | some g => (match ag cl as env st1 with
          | some (ds, st2) => cl g (some x :: ds) st2
          | none => none)
        | none => none)
      | none => none)
    | none => none)
  | .lset e, env, st => (match ev cl e env st with
    | some (.list xs, st1) => if xs.all knD = true ∧ xs.length ≤ 4000 then some (.int (dedD xs).length, st1) else none
    | _ => none)
  | .srset e, env, st => (match ev cl e env st with
    | some (.list xs, st1) => (match strsD xs with
      | some ss => if ss.length < 64 then some (.list ((srtS (dedS ss)).map PyData.str), st1) else none
      | none => none)
    | _ => none)
  | .cntx e x, env, st => (match ev cl e env st with
    | some (.list xs, st1) => (match ev cl x env st1 with
      | some (.str s, st2) => if xs.all knD = true then some (.int (xs.countP (isSt s)), st2) else none
      | _ => none)
    | _ => none)
def ea (cl : Cl) : IEs → List Sl → Pl → Option (List D × Pl)
  | .nil, _, st => some ([], st)
  | .cons e es, env, st => (match ev cl e env st with
    | some (x, st1) => (match ea cl es env st1 with
      | some (xs, st2) => some (x :: xs, st2)
      | none => none)
    | none => none)
  | .pool _ _, _, _ => none
  | .cell _ _, _, _ => none
  | .newl _ _, _, _ => none
  | .newc _ _, _, _ => none
  | .copy _ _, _, _ => none
def ag (cl : Cl) : IEs → List Sl → Pl → Option (List (Option D) × Pl)
  | .nil, _, st => some ([], st)
  | .cons e es, env, st => (match ev cl e env st with
    | some (x, st1) => (match ag cl es env st1 with
      | some (xs, st2) => some (some x :: xs, st2)
      | none => none)
    | none => none)
  | .pool i es, env, st => (match env[i]? with
    | some .pl => (match ag cl es env st with
      | some (xs, st2) => some (none :: xs, st2)
      | none => none)
    | _ => none)
  | .cell i es, env, st => (match env[i]? with
    | some (.ce k) => (match ag cl es env st with
      | some (xs, st2) => some (some (handle k) :: xs, st2)
      | none => none)
    | _ => none)
  | .newl _ _, _, _ => none
  | .newc _ _, _, _ => none
  | .copy _ _, _, _ => none
def agx (cl : Cl) : IEs → List Sl → Pl → Option (List (Option D) × Pl)
  | .nil, _, st => some ([], st)
  | .cons e es, env, st => (match ev cl e env st with
    | some (x, st1) => (match agx cl es env st1 with
      | some (xs, st2) => some (some x :: xs, st2)
      | none => none)
    | none => none)
  | .pool i es, env, st => (match env[i]? with
    | some .pl => (match agx cl es env st with
      | some (xs, st2) => some (none :: xs, st2)
      | none => none)
    | _ => none)
  | .cell i es, env, st => (match env[i]? with
    | some (.ce k) => (match agx cl es env st with
      | some (xs, st2) => some (some (handle k) :: xs, st2)
      | none => none)
    | _ => none)
  | .newl e es, env, st => (match ev cl e env st with
    | some (.list ds, st1) => if ds.all flatD = true then (match agx cl es env { st1 with cs := st1.cs ++ [ds] } with
      | some (xs, st2) => some (some (handle st1.cs.length) :: xs, st2)
      | none => none) else none
    | _ => none)
  | .newc its es, env, st => (match agx cl its env st with
    | some (os, st1) => (match cellD os with
      | some ds => if ds.length ≤ most then (match agx cl es env { st1 with cs := st1.cs ++ [ds] } with
        | some (xs, st2) => some (some (handle st1.cs.length) :: xs, st2)
        | none => none) else none
      | none => none)
    | none => none)
  | .copy i es, env, st => (match env[i]? with
    | some (.ce k) => (match st.cs[k]? with
      | some ds => if ds.all flatD = true then (match agx cl es env { st with cs := st.cs ++ [ds] } with
        | some (xs, st2) => some (some (handle st.cs.length) :: xs, st2)
        | none => none) else none
      | none => none)
    | _ => none)
/-- tests in a row, all to be True -/
def et (cl : Cl) : IEs → List Sl → Pl → Option (Bool × Pl)
  | .nil, _, st => some (true, st)
  | .cons e es, env, st => (match ev cl e env st with
    | some (.bool true, st1) => et cl es env st1
    | some (.bool false, st1) => some (false, st1)
    | _ => none)
  | .pool _ _, _, _ => none
  | .cell _ _, _, _ => none
  | .newl _ _, _, _ => none
  | .newc _ _, _, _ => none
  | .copy _ _, _, _ => none
def eo (cl : Cl) : IO → List Sl → Pl → Option (Option Int × Pl)
  | .non, _, st => some (none, st)
  | .some e, env, st => (match ev cl e env st with
    | some (.int i, st1) => some (some i, st1)
    | _ => none)
def ei (cl : Cl) : IT → List Sl → Pl → Option (List D × Pl)
  | .seq e, env, st => (match ev cl e env st with
    | some (x, st1) => (itS x).map fun xs => (xs, st1)
    | none => none)
  | .rng1 e, env, st => (match ev cl e env st with
    | some (.int n, st1) => (rngD 0 n).map fun xs => (xs, st1)
    | _ => none)
  | .rng2 a b, env, st => (match ev cl a env st with
    | some (.int lo, st1) => (match ev cl b env st1 with
      | some (.int hi, st2) => (rngD lo hi).map fun xs => (xs, st2)
      | _ => none)
    | _ => none)
  | .rng3 a b, env, st => (match ev cl a env st with
    | some (.int lo, st1) => (match ev cl b env st1 with
      | some (.int hi, st2) => (rngN lo hi).map fun xs => (xs, st2)
      | _ => none)
    | _ => none)
  | .enm e, env, st => (match ev cl e env st with
    | some (x, st1) => (itS x).map fun xs => (enD 0 xs, st1)
    | none => none)
  | .zp a b, env, st => (match ev cl a env st with
    | some (x, st1) => (match ev cl b env st1 with
      | some (y, st2) => (match itD x with
        | some xs => (itD y).map fun ys => (zpD xs ys, st2)
        | none => none)
      | none => none)
    | none => none)
  | .dkeys i, env, st => (match env[i]? with
    | some (.im (.dict ((.bool false, .none) :: tab))) => some (tab.map (·.1), st)
    | _ => none)
end
/-- what a call raises stands beside what it returns, by this name; an error as data: its class, its field -/
def bang (f : Str) : Str := ⟨f.cps.push 33⟩
abbrev Er := Str × D
def erD : Er → D
  | (c, v) => .tuple [.str c, v]
def erOf : D → Option Er
  | .tuple [.str c, v] => some (c, v)
  | _ => none
/-- what an own error's field may be -/
def errOk : D → Bool
  | .str s => decide (s.length ≤ 1000)
  | .int i => decide (i.natAbs.log2 < 1920) && decide ((toString i : String).toList.length ≤ 1000)
  | _ => false
mutual
/-- what an expression raises -/
def xv (cl : Cl) : IE → List Sl → Pl → Option (Er × Pl)
  | .call f as, env, st => (match ag cl as env st with
    | some (ds, st1) => (match cl (bang f) ds st1 with
      | some (d, st2) => (erOf d).map fun er => (er, st2)
      | none => none)
    | none => none)
  | .calld f as cs, env, st => (match ag cl as env st with
    | some (ds, st1) => (match cl (bang f) (ds ++ cs.map fun c => some c.d) st1 with
      | some (d, st2) => (erOf d).map fun er => (er, st2)
      | none => none)
    | none => none)
  | .bin _ a b, env, st => (match xv cl a env st with
    | some r => some r
    | none => (match ev cl a env st with
      | some (_, st1) => xv cl b env st1
      | none => none))
  | .cmp _ a b, env, st => (match xv cl a env st with
    | some r => some r
    | none => (match ev cl a env st with
      | some (_, st1) => xv cl b env st1
      | none => none))
  | .not a, env, st => xv cl a env st
  | .lent is e, env, st => xv cl e (frzE env is) st
  | .tup es, env, st => xa cl es env st
  | _, _, _ => none
/-- one after another -/
def xa (cl : Cl) : IEs → List Sl → Pl → Option (Er × Pl)
  | .nil, _, _ => none
  | .cons e es, env, st => (match xv cl e env st with
    | some r => some r
    | none => (match ev cl e env st with
      | some (_, st1) => xa cl es env st1
      | none => none))
  | .pool _ _, _, _ => none
  | .cell _ _, _, _ => none
  | .newl _ _, _, _ => none
  | .newc _ _, _, _ => none
  | .copy _ _, _, _ => none
end
inductive Out where
  | nx (env : List Sl) (st : Pl)
  | rt (d : D) (st : Pl)
  | bk (env : List Sl) (st : Pl)
  | ct (env : List Sl) (st : Pl)
def sgD (j : Sg) (d : D) (env : List Sl) : Option (List Sl) := match j with
  | .one j => some (env.set j (.im d))
  | .many js => (match itD d with
    | some ds => setMany js ds env
    | none => none)
  | .nest j js => (match itD d with
    | some [x, y] => (match itD y with
      | some ds => setMany js ds (env.set j (.im x))
      | none => none)
    | _ => none)
/-- while, with so many turns at most -/
def whG (f : List Sl → Pl → Option (D × Pl)) (g : List Sl → Pl → Option Out) : Nat → List Sl → Pl → Option Out
  | 0, _, _ => none
  | n + 1, env, st => match f env st with
    | some (.bool true, st1) => (match g env st1 with
      | some (.nx e s) => whG f g n e s
      | some (.ct e s) => whG f g n e s
      | some (.bk e s) => some (.nx e s)
      | some (.rt v s) => some (.rt v s)
      | none => none)
    | some (.bool false, st1) => some (.nx env st1)
    | _ => none
def forG (f : D → List Sl → Pl → Option Out) : List D → List Sl → Pl → Option Out
  | [], env, st => some (.nx env st)
  | d :: ds, env, st => match f d env st with
    | some (.nx e s) => forG f ds e s
    | some (.ct e s) => forG f ds e s
    | some (.bk e s) => some (.nx e s)
    | some (.rt v s) => some (.rt v s)
    | none => none
/-- what a turn of a loop raises -/
def forX (f : D → List Sl → Pl → Option Out) (g : D → List Sl → Pl → Option (Er × List Sl × Pl)) : List D → List Sl → Pl → Option (Er × List Sl × Pl)
  | [], _, _ => none
  | d :: ds, env, st => match g d env st with
    | some r => some r
    | none => match f d env st with
      | some (.nx e s) => forX f g ds e s
      | some (.ct e s) => forX f g ds e s
      | _ => none
/-- a name goes, and no caught error is spoken of -/
def cln : Sl → Sl
  | .er _ _ => .no
  | s => s
def clnE (j : Nat) (env : List Sl) : List Sl := (env.map cln).set j .no
def Out.un (j : Nat) : Out → Out
  | .nx env st => .nx (clnE j env) st
  | .rt d st => .rt d st
  | .bk env st => .bk (clnE j env) st
  | .ct env st => .ct (clnE j env) st
/-- the lists made behind the first n are forgotten -/
def unc (n : Nat) : Sl → Sl
  | .ce k => if k < n then .ce k else .no
  | s => s
def Out.unc (n : Nat) : Out → Out
  | .nx env st => .nx (env.map (Ip.unc n)) { st with cs := st.cs.take n }
  | .rt d st => .rt d { st with cs := st.cs.take n }
  | .bk env st => .bk (env.map (Ip.unc n)) { st with cs := st.cs.take n }
  | .ct env st => .ct (env.map (Ip.unc n)) { st with cs := st.cs.take n }
mutual
def evS (cl : Cl) : IS → List Sl → Pl → Option Out
  | .set i e, env, st => (match ev cl e env st with
    | some (x, st1) => some (.nx (env.set i (.im x)) st1)
    | none => none)
  | .own i e, env, st => (match ev cl e env st with
    | some (.list xs, st1) => some (.nx (env.set i (.ow xs)) st1)
    | _ => none)
  | .unp js e, env, st => (match ev cl e env st with
    | some (x, st1) => (sgD (.many js) x env).map fun env1 => .nx env1 st1
    | none => none)
  | .app i e, env, st => (match ev cl e env st with
    | some (x, st1) => (match env[i]? with
      | some (.ow ds) => if ds.length < most then some (.nx (env.set i (.ow (ds ++ [x]))) st1) else none
      | _ => none)
    | none => none)
  | .ext i e, env, st => (match ev cl e env st with
    | some (x, st1) => (match itD x with
      | some xs => (match env[i]? with
        | some (.ow ds) => if ds.length + xs.length ≤ most then some (.nx (env.set i (.ow (ds ++ xs))) st1) else none
        | _ => none)
      | none => none)
    | none => none)
  | .pput i k e, env, st => (match ev cl e env st with
    | some (.int n, st1) => (match env[i]? with
      | some .pl => (st1.put n k).map fun st2 => .nx env st2
      | _ => none)
    | _ => none)
  | .iff c a b, env, st => (match ev cl c env st with
    | some (.bool true, st1) => evSs cl a env st1
    | some (.bool false, st1) => evSs cl b env st1
    | _ => none)
  | .ifr e a b, env, st => (match ev cl e env st with
    | some (.bool true, st1) => evSs cl b env st1
    | some (.bool false, st1) => evSs cl a env st1
    | _ => none)
  | .forr j it b, env, st => (match ei cl it env st with
    | some (ds, st1) => forG (fun d env st => match sgD j d env with
        | some env1 => evSs cl b env1 st
        | none => none) ds env st1
    | none => none)
  | .ret e, env, st => (match ev cl e env st with
    | some (x, st1) => some (.rt x st1)
    | none => none)
  | .retN, _, st => some (.rt .none st)
  | .retf e, env, st => (match ev cl e env st with
    | some (.list xs, st1) => some (.rt (.list xs) st1)
    | _ => none)
  | .dropc f as i, env, st => (match ag cl as env st with
    | some (ds, st1) => (match env[i]? with
      | some (.ow xs) => (match cl (ioN f) (ds ++ [some (.list xs)]) st1 with
        | some (.list out, st2) => some (.nx (env.set i (.ow out)) st2)
        | _ => none)
      | _ => none)
    | none => none)
  | .setf j f as, env, st => (match ag cl as env st with
    | some (ds, st1) => (match cl f ds st1 with
      | some (.none, st2) => some (.nx (env.set j (.im .none)) st2)
      | some (.list xs, st2) => some (.nx (env.set j (.ow xs)) st2)
      | _ => none)
    | none => none)
  | .oset i k e, env, st => (match ev cl e env st with
    | some (x, st1) => (match env[i]? with
      | some (.ow ds) => if k < ds.length then some (.nx (env.set i (.ow (ds.set k x))) st1) else none
      | _ => none)
    | none => none)
  | .drop e, env, st => (match ev cl e env st with
    | some (_, st1) => some (.nx env st1)
    | none => none)
  | .brk, env, st => some (.bk env st)
  | .cnt, env, st => some (.ct env st)
  | .frz is s, env, st => evS cl s (frzE env is) st
  | .aug i o e, env, st => (match env[i]? with
    | some (.im (.int m)) => (match ev cl e env st with
      | some (.int n, st1) => (match binD o (.int m) (.int n) with
        | some d => some (.nx (env.set i (.im d)) st1)
        | none => none)
      | _ => none)
    | _ => none)
  | .stop, _, _ => none
  | .rse _ _, _, _ => none
  | .calm s, env, st => evS cl s env st
  | .capp i e, env, st => (match ev cl e env st with
    | some (x, st1) => (match env[i]? with
      | some (.ce k) => (match st1.cs[k]? with
        | some ds => if flatD x = true ∧ ds.length < most then some (.nx env { st1 with cs := st1.cs.set k (ds ++ [x]) }) else none
        | none => none)
      | _ => none)
    | none => none)
  | .cset i j e, env, st => (match ev cl e env st with
    | some (x, st1) => (match env[i]? with
      | some (.ce k) => (match st1.cs[k]? with
        | some ds => if flatD x = true ∧ j < ds.length then some (.nx env { st1 with cs := st1.cs.set k (ds.set j x) }) else none
        | none => none)
      | _ => none)
    | none => none)
  | .cal j i m, env, st => (match env[i]? with
    | some (.ce k) => (match st.cs[k]? with
      | some ds => (match ds[m]? with
        | some (.dict [(.none, .int n)]) => some (.nx (env.set j (.ce n.toNat)) st)
        | _ => none)
      | none => none)
    | _ => none)
  | .cnew j e r, env, st => (match ev cl e env st with
    | some (.list ds, st1) => if ds.all flatD = true then (match evSs cl r (env.set j (.ce st1.cs.length)) { st1 with cs := st1.cs ++ [ds] } with
      | some o => some (o.unc st1.cs.length)
      | none => none) else none
    | _ => none)
  | .whl c, env, st => (match ev cl c env st with
    | some (.bool false, st1) => some (.nx env st1)
    | _ => none)
  | .ownl is j e, env, st => (match ev cl e (frzE env is) st with
    | some (.list xs, st1) => if xs.all flatD = true then some (.nx (env.set j (.ow xs)) st1) else none
    | _ => none)
  | .tri b cs j u, env, st => (match evSs cl b env st with
    | some o => some o
    | none => (match xvSs cl b env st with
      | some ((c, v), env1, st1) => if c ∈ cs then (match evSs cl u (env1.set j (.er c v)) st1 with
          | some o => some (o.un j)
          | none => none) else none
      | none => none))
  | .hid j, env, st => some (.nx (env.set j .no) st)
  | .dset j tab, env, st => some (.nx (env.set j (.dk tab)) st)
  | .oseti i a e, env, st => (match ev cl e env st with
    | some (x, st1) => (match ev cl a env st1 with
      | some (.int n, st2) => (match env[i]? with
        | some (.ow ds) => if 0 ≤ n ∧ n < (ds.length : Int) then some (.nx (env.set i (.ow (ds.set n.toNat x))) st2) else none
        | _ => none)
      | _ => none)
    | none => none)
  | .tnew j, env, st => some (.nx (env.set j (.od true [])) st)
  | .tput i a e, env, st => (match ev cl e env st with
    | some (x, st1) => (match ev cl a env st1 with
      | some (y, st2) => (match env[i]? with
        | some (.od true tab) => if (keyT y).isSome = true ∧ tab.length < most then some (.nx (env.set i (.od true (dPut tab y x))) st2) else none
        | _ => none)
      | none => none)
    | none => none)
  | .opop j i e k, env, st => (match ev cl e env st with
    | some (.int n, st1) => (match env[i]? with
      | some (.ow ds) => if 0 ≤ n ∧ n < (ds.length : Int) ∧ ds.length ≤ most then (ixD (ds.getD n.toNat .none) (.int k)).map fun y => .nx ((env.set i (.ow (ds.eraseIdx n.toNat))).set j (.im y)) st1 else none
      | _ => none)
    | _ => none)
  | .omov i g a, env, st => (match ev cl g env st with
    | some (.int n, st1) => (match ev cl a env st1 with
      | some (.int m, st2) => (match env[i]? with
        | some (.ow ds) => if 0 ≤ m ∧ m < (ds.length : Int) ∧ 0 ≤ n ∧ n < (ds.length : Int) ∧ ds.length ≤ most then some (.nx (env.set i (.ow ((ds.eraseIdx m.toNat).take n.toNat ++ [ds.getD m.toNat .none] ++ (ds.eraseIdx m.toNat).drop n.toNat))) st2) else none
        | _ => none)
      | _ => none)
    | _ => none)
  | .orem i e, env, st => (match ev cl e env st with
    | some (x, st1) => (match env[i]? with
      | some (.ow ds) => if PySem.SeqAt.shaped x = true ∧ PySem.SeqAt.shaped (.list ds) = true then (idxG x ds 0 0).map fun j => .nx (env.set i (.ow (ds.eraseIdx j))) st1 else none
      | _ => none)
    | none => none)
  | .oaug i a o e, env, st => (match ev cl a env st with
    | some (.int n, st1) => (match ev cl e env st1 with
      | some (.int y, st2) => (match env[i]? with
        | some (.ow ds) => (match ds[n.toNat]? with
          | some (.int m) => if 0 ≤ n then (binD o (.int m) (.int y)).map fun z => .nx (env.set i (.ow (ds.set n.toNat z))) st2 else none
          | _ => none)
        | _ => none)
      | _ => none)
    | _ => none)
  | .dnew j, env, st => some (.nx (env.set j (.od false [])) st)
  | .dput i a e, env, st => (match ev cl e env st with
    | some (x, st1) => (match ev cl a env st1 with
      | some (y, st2) => (match env[i]? with
        | some (.od false tab) => if (keyV y).isSome = true ∧ tab.length < most then some (.nx (env.set i (.od false (dPut tab y x))) st2) else none
        | _ => none)
      | none => none)
    | none => none)
  | .lockd is, env, st => some (.nx (frzdE env is) st)
  | .odc j x it cs k e, env, st => (match ei cl it env st with
    | some (ds, st1) => if ds.length ≤ most then (match dcG (fun d st => match et cl cs (env.set x (.im d)) st with
        | some (true, st2) => (match ev cl k (env.set x (.im d)) st2 with
          | some (y, st3) => (match ev cl e (env.set x (.im d)) st3 with
            | some (z, st4) => some (some (y, z), st4)
            | none => none)
          | none => none)
        | some (false, st2) => some (none, st2)
        | none => none) ds [] st1 with
      | some (tab, st5) => some (.nx (env.set j (.od false tab)) st5)
      | none => none) else none
    | none => none)
  | .whr c b, env, st => whG (fun env st => ev cl c env st) (fun env st => evSs cl b env st) most env st
def evSs (cl : Cl) : ISs → List Sl → Pl → Option Out
  | .nil, env, st => some (.nx env st)
  | .cons s r, env, st => (match evS cl s env st with
    | some (.nx env1 st1) => evSs cl r env1 st1
    | some o => some o
    | none => none)
/-- what a statement raises -/
def xvS (cl : Cl) : IS → List Sl → Pl → Option (Er × List Sl × Pl)
  | .set _ e, env, st => (xv cl e env st).map fun r => (r.1, env, r.2)
  | .ret e, env, st => (xv cl e env st).map fun r => (r.1, env, r.2)
  | .drop e, env, st => (xv cl e env st).map fun r => (r.1, env, r.2)
  | .unp _ e, env, st => (xv cl e env st).map fun r => (r.1, env, r.2)
  | .app i e, env, st => (match env[i]? with
    | some (.ow _) => (xv cl e env st).map fun r => (r.1, env, r.2)
    | _ => none)
  | .rse c e, env, st => (match ev cl e env st with
    | some (v, st1) => if errOk v = true then some ((c, v), env, st1) else none
    | none => none)
  | .iff c a b, env, st => (match ev cl c env st with
    | some (.bool true, st1) => xvSs cl a env st1
    | some (.bool false, st1) => xvSs cl b env st1
    | _ => none)
  | .ifr e a b, env, st => (match ev cl e env st with
    | some (.bool true, st1) => xvSs cl b env st1
    | some (.bool false, st1) => xvSs cl a env st1
    | some _ => none
    | none => (xv cl e env st).map fun r => (r.1, env, r.2))
  | .tri b cs _ _, env, st => (match xvSs cl b env st with
    | some r => if r.1.1 ∈ cs then none else some r
    | none => none)
  | .forr j it b, env, st => (match ei cl it env st with
    | some (ds, st1) => forX (fun d env st => match sgD j d env with
      | some env1 => evSs cl b env1 st
      | none => none) (fun d env st => match sgD j d env with
      | some env1 => xvSs cl b env1 st
      | none => none) ds env st1
    | none => none)
  | _, _, _ => none
def xvSs (cl : Cl) : ISs → List Sl → Pl → Option (Er × List Sl × Pl)
  | .nil, _, _ => none
  | .cons s r, env, st => (match xvS cl s env st with
    | some x => some x
    | none => (match evS cl s env st with
      | some (.nx env1 st1) => xvSs cl r env1 st1
      | _ => none))
end
def slOf : Option D → Sl
  | some (.dict [(.none, .int k)]) => .ce k.toNat
  | some d => .im d
  | none => .pl
theorem slOf_rp {K : PySem.W.Frag} {B : Hp} {v : V} {d : D} (h : Rp K B v d) : slOf (some d) = .im d := by cases h <;> rfl
theorem slOf_isOw {d : Option D} : isOw (slOf d) = false := by
  unfold slOf
  split <;> rfl
theorem slOf_ow {d : Option D} {ds : List D} : slOf d ≠ .ow ds := fun h => by
  unfold slOf at h
  split at h <;> cases h
/-- a def: how many names, its body -/
structure IF where
  n : Nat
  body : ISs
def runF (cl : Cl) (f : IF) (as : List (Option D)) (st : Pl) : Option (D × Pl) :=
  match evSs cl f.body (as.map slOf ++ List.replicate (f.n - as.length) .no) st with
  | some (.rt d st1) => some (d, st1)
  | some (.nx _ st1) => some (.none, st1)
  | _ => none
end Ip

set_option Elab.async false
set_option linter.all false
set_option maxRecDepth 100000
set_option maxHeartbeats 4000000
namespace ObX
open PySem PySem.Spec PyProof.Rows L2
/-- a tuple's iterator that has not turned -/
def ItT (tp it : Addr) : HO := .ext fun h => h.IsTupleIter it tp 0
/-- what __iter__ and __len__ promise -/
def spIt (K : PySem.W.Frag) (C : Addr) (f : Str) : Sp := fun vs H Q _ => ∃ a dx fs tp xs q zs, vs = [V.ref a] ∧ H a = some (.ins C dx fs) ∧ fs.lookup f = some (V.ref tp) ∧ SqT K H tp xs ∧ H q = some (.lst zs) ∧ ∀ it, H it = Option.none → q < it → Q (.ref it) (upd H it (ItT tp it))
def spLn (K : PySem.W.Frag) (C : Addr) (f : Str) : Sp := fun vs H Q _ => ∃ a dx fs tp xs, vs = [V.ref a] ∧ H a = some (.ins C dx fs) ∧ fs.lookup f = some (V.ref tp) ∧ SqT K H tp xs ∧ Q (.int xs.length) H
end ObX

set_option Elab.async false
set_option linter.all false
set_option maxRecDepth 100000
set_option maxHeartbeats 4000000

set_option Elab.async false
set_option linter.all false
set_option maxRecDepth 100000
set_option maxHeartbeats 4000000

set_option Elab.async false
set_option linter.all false
set_option maxRecDepth 100000
set_option maxHeartbeats 4000000
namespace Ip
open PySem L2 PySem.W NdefX
/-- what may stand in the message -/
def ErrV (v : V) : Prop := (∃ y : Str, v = .str y ∧ y.length ≤ 1000) ∨ ∃ i : Int, v = .int i ∧ i.natAbs.log2 < 1920 ∧ (toString i : String).toList.length ≤ 1000
/-- what such an __init__ promises -/
def spE1 (C : Addr) (fld : Str) : Sp := fun vs H Q _ => ∃ (a : Addr) (v : V), vs = [.ref a, v] ∧ ErrV v ∧ H a = some (exo a C none) ∧ ∀ dx, H dx = none → dx ≠ a → Q .non (upd (upd H dx (exd dx [(fld, v)])) a (exo a C (some dx)))
end Ip

set_option Elab.async false
set_option linter.all false
set_option maxRecDepth 100000
set_option maxHeartbeats 4000000
namespace Ip
open PySem L2 PySem.W NdefX
/-- what is known of the class where it is named -/
structure ErrAt (X : Cx) (x fld : Str) (C : Addr) : Prop where
  mg : X.mg x = some (.ref C)
  oex : OexC X.K C
  def_ : ∃ fI fd k ps, findIn X.K (.ref C) "__init__" = some (some (.ref fI)) ∧ typeIn X.K (.ref fI) = some (.type "function") ∧ FnOk X.prog X.w X.K X.mg X.base (L2N.CX X.prog X.w) k fI fd ps (spE1 C fld) ∧ Room (k + 1) X.A ∧ Binds X.K fd ps []
theorem passN {Y : Cx} : Passes (L2N.CX Y.prog Y.w) Y E0 := fun _ _ _ _ _ _ _ ⟨_, _, _, _, _, _, _, _, _, _, _, _, z⟩ => z.elim
end Ip

set_option Elab.async false
set_option linter.all false
set_option maxRecDepth 100000
set_option maxHeartbeats 4000000
namespace Ip
open PySem L2
/-- what else is known of own classes: list(..) of an instance (the attribute that holds the tuple), a property that gives an attribute, a class without __init__, a classmethod that makes an instance of list(row) -/
inductive Xt where
  | it (c f : Str)
  | pr (c m f : Str)
  | nw (c : Str)
  | of (c m c2 f : Str)
deriving DecidableEq
structure Gam where
  N : List Str
  sc : Scope
  K : PySem.W.Frag
  cl : Cl
  /-- the own defs that may be called here; the built-ins that nothing covers -/
  fs : List Str
  bs : List Str
  /-- the own defs that may raise; the own errors, each with its field -/
  xs : List Str
  es : List (Str × Str)
  /-- the own defs that may be called within an except suite -/
  hs : List Str := []
  /-- isinstance of a caught error: its class, the class asked for, the answer; the same of except clauses -/
  ks : List (Str × Str × Bool) := []
  ts : List (Str × Str × Bool) := []
  /-- the module's constants; own defs with what fills up their last parameters -/
  gs : List (Str × D) := []
  df : List (Str × List Cst × List Str) := []
  /-- own generator defs, spoken of by what list(..) of a call comes to -/
  gn : List Str := []
  /-- within an except suite -/
  hot : Bool := false
  /-- the slot of the list that goes back changed; a new list is returned; own defs that change their last list; own defs that return a new list or None -/
  io : Option Nat := none
  fr : Bool := false
  fi : List Str := []
  ff : List Str := []
  /-- the module's dicts with text keys; the own defs that a lambda may call; a lambda may be made here -/
  kd : List (Str × List (Str × D)) := []
  lx : List Str := []
  lm : Bool := false
  /-- own classes whose instances are data, each with its attributes; their methods (how it is told, its class, its name); those that may be made here -/
  oc : List (Str × List Str) := []
  ms : List (Str × Str × Str) := []
  mkr : List Str := []
  /-- classes whose list(..) may be taken: the attribute that holds the tuple -/
  its : List Xt := []
/-- no error is caught here -/
abbrev noLk : Addr → Addr → Str → Str → Prop := fun _ _ _ _ => False
/-- the pool alone -/
def Pa.o (p : Pa) : Pa := ⟨p.a, p.q, noLk, none, false, p.ca, p.tb, p.sf⟩
/-- nothing but the pool -/
structure Std (K : PySem.W.Frag) (p : Pa) : Prop where
  lk : p.lk = noLk
  io : p.io = none
  fr : p.fr = false
  tb : p.tb = tabK K
/-- a def's name, as it is called within an except suite -/
def hotN (f : Str) : Str := ⟨f.cps.push 126⟩
inductive ArA (K : PySem.W.Frag) (p : Pa) (B : Hp) : List V → List (Option D) → Prop
  | nil : ArA K p B [] []
  | cons {v : V} {vs : List V} {d : D} {ds : List (Option D)} : Rp K B v d → ArA K p B vs ds → ArA K p B (v :: vs) (some d :: ds)
  | pool {vs : List V} {ds : List (Option D)} : ArA K p B vs ds → ArA K p B (.ref p :: vs) (none :: ds)
  | cell {k : Nat} {a : Addr} {vs : List V} {ds : List (Option D)} : p.ca k = some a → ArA K p B vs ds → ArA K p B (.ref a :: vs) (some (handle k) :: ds)
theorem Bs.o {p : Pa} {st : Pl} {B F H : Hp} (w : Bs p st B F H) : Bs p.o st B F H := ⟨w.b, w.f, w.d, w.pf, w.pb, w.pl, ⟨w.ce.at_, w.ce.b, w.ce.inj, w.ce.tn, w.ce.tt⟩⟩
theorem Bs.u {p : Pa} {st : Pl} {B F H : Hp} (w : Bs p.o st B F H) : Bs p st B F H := ⟨w.b, w.f, w.d, w.pf, w.pb, w.pl, ⟨w.ce.at_, w.ce.b, w.ce.inj, w.ce.tn, w.ce.tt⟩⟩
theorem ArA.o {K : PySem.W.Frag} {p : Pa} {B : Hp} : ∀ {vs : List V} {as : List (Option D)}, ArA K p B vs as → ArA K p.o B vs as
  | _, _, .nil => .nil
  | _, _, .cons h r => .cons h (ArA.o r)
  | _, _, .pool r => .pool (ArA.o r)
  | _, _, .cell h r => .cell h (ArA.o r)
/-- a def over data -/
def spF (K : PySem.W.Frag) (cl : Cl) (f : Str) : Sp := fun vs H Q _ => ∃ (p : Pa) (st : Pl) (B F : Hp) (as : List (Option D)) (d : D) (st' : Pl), Std K p ∧ Bs p st B F H ∧ ArA K p B vs as ∧ cl f as st = some (d, st') ∧
  ∀ v B' H', Ex B B' → Bs p st' B' F H' → Rp K B' v d → Q v H'
/-- a generator def over data: all that it hands out -/
def spL (K : PySem.W.Frag) (cl : Cl) (f : Str) : SpG := fun vs H cont _ => ∃ (p : Pa) (st : Pl) (B F : Hp) (as : List (Option D)) (out : List D) (st' : Pl), Std K p ∧ Bs p st B F H ∧ ArA K p B vs as ∧ cl f as st = some (.list out, st') ∧
  ∀ xs B' H', Ex B B' → Bs p st' B' F H' → RpA K B' xs out → cont xs H'
/-- a def that changes the list it is handed last, over data -/
def spI (K : PySem.W.Frag) (cl : Cl) (f : Str) : Sp := fun vs H Q _ => ∃ (p : Pa) (st : Pl) (B F : Hp) (as : List (Option D)) (us : List V) (a : Addr) (xs : List V) (ds out : List D) (st' : Pl), Std K p ∧ Bs p st B F H ∧ vs = us ++ [.ref a] ∧ ArA K p B us as ∧
  H a = some (.lst xs) ∧ B a = none ∧ F a = none ∧ NotP p a ∧ RpA K B xs ds ∧ cl (ioN f) (as ++ [some (.list ds)]) st = some (.list out, st') ∧
  ∀ B' H' ys, Ex B B' → Bs p st' B' F H' → B' a = none → H' a = some (.lst ys) → RpA K B' ys out → Q .non H'
/-- None, or a new list -/
def RtF (K : PySem.W.Frag) (p : Pa) (B F H : Hp) (v : V) (d : D) : Prop := (d = .none ∧ v = .non) ∨ ∃ (a : Addr) (xs : List V) (ds : List D), d = .list ds ∧ v = .ref a ∧ H a = some (.lst xs) ∧ RpA K B xs ds ∧ B a = none ∧ F a = none ∧ NotP p a
def RtV (K : PySem.W.Frag) (p : Pa) (B F H : Hp) (v : V) (d : D) : Prop := if p.fr = true then RtF K p B F H v d else Rp K B v d
theorem RtV.f {K : PySem.W.Frag} {p : Pa} {B F H : Hp} {v : V} {d : D} (h : p.fr = false) : RtV K p B F H v d = Rp K B v d := by
  unfold RtV
  rw [h]
  rfl
/-- a def that returns a new list or None, over data -/
def spR (K : PySem.W.Frag) (cl : Cl) (f : Str) : Sp := fun vs H Q _ => ∃ (p : Pa) (st : Pl) (B F : Hp) (as : List (Option D)) (d : D) (st' : Pl), Std K p ∧ Bs p st B F H ∧ ArA K p B vs as ∧ cl f as st = some (d, st') ∧
  ∀ v B' H', Ex B B' → Bs p st' B' F H' → RtF K p B' F H' v d → Q v H'
/-- an own error that is on its way -/
def Raised (mg : Str → Option Value) (es : List (Str × Str)) (K : PySem.W.Frag) (p : Pa) (B F : Hp) (er : Er) (cls : Value) (d : Addr) (H : Hp) : Prop := ∃ (C : Addr) (fld : Str) (u : V),
  (er.1, fld) ∈ es ∧ mg er.1 = some (.ref C) ∧ cls = .ref C ∧ H d = some (.xd [(fld, u)]) ∧ Rp K B u er.2 ∧ B d = none ∧ F d = none ∧ d ≠ p
/-- a def over data that may raise -/
def spG (mg : Str → Option Value) (es : List (Str × Str)) (K : PySem.W.Frag) (cl : Cl) (f : Str) : Sp := fun vs H Q E => ∃ (p : Pa) (st : Pl) (B F : Hp) (as : List (Option D)), Std K p ∧ Bs p st B F H ∧ ArA K p B vs as ∧
  ((∃ d st', cl f as st = some (d, st') ∧ ∀ v B' H', Ex B B' → Bs p st' B' F H' → Rp K B' v d → Q v H') ∨
   (∃ dd er st', cl (bang f) as st = some (dd, st') ∧ erOf dd = some er ∧ ∀ cls d B' H', Ex B B' → Bs p st' B' F H' → Raised mg es K p B' F er cls d H' → E cls (some d) H'))
/-- an instance is made: the class is told as a def that takes a tuple and returns the instance -/
def spMk (mg : Str → Option Value) (es : List (Str × Str)) (K : PySem.W.Frag) (cl : Cl) (c : Str) : Sp := fun vs H Q E => ∃ (p : Pa) (st : Pl) (B F : Hp) (x dx : Addr) (zs : List V) (ds : List D), vs = .ref x :: zs ∧ Std K p ∧
  Bs p st B (upd (upd F dx (.own x)) x (.ins (He.ga K c) dx [])) H ∧ F x = none ∧ F dx = none ∧ dx ≠ x ∧ RpA K B zs ds ∧ ds.length ≤ most ∧
  ((∃ d st', cl c [some (.tuple ds)] st = some (d, st') ∧ ∀ B' H', Ex B B' → Bs p st' B' F H' → Rp K B' (.ref x) d → Q .non H') ∨
   (∃ dd er st', cl (bang c) [some (.tuple ds)] st = some (dd, st') ∧ erOf dd = some er ∧ ∀ cls d B' H', Ex B B' → Bs p st' B' F H' → Raised mg es K p B' F er cls d H' → E cls (some d) H'))
/-- what a class must have, besides -/
structure ClF (K : PySem.W.Frag) (mg : Str → Option Value) (c : Str) (fs : List Str) : Prop where
  mg : mg c = some (.ref (He.ga K c))
  ob : ObC K (He.ga K c)
  no : ∀ f ∈ fs, NoAttr K (He.ga K c) f
  sf : PySem.W.selfFirst K (He.ga K c) = true
  nf : PySem.W.notFirst K (He.ga K c) (.ref (He.ga K c)) = true
  ni : PySem.W.notFirst K (He.ga K c) (.type "int") = true
  ki : PySem.W.kitOne K (.ref (He.ga K c)) (.ref (He.ga K c)) = some true
  kn : ∀ t : String, t ∈ (["NoneType", "int", "bool", "str", "list", "tuple"] : List String) → PySem.W.kitOne K (.type t) (.ref (He.ga K c)) = some false
  ot : ∀ c' ∈ obNs, c' ≠ c → PySem.W.kitOne K (.ref (He.ga K c')) (.ref (He.ga K c)) = some false ∧ PySem.W.notFirst K (He.ga K c) (.ref (He.ga K c')) = true
/-- what a method is asked of: an instance with these attributes; two of them; an instance and an int -/
def binN : List Str := ["__add__", "__sub__", "__or__", "__and__", "__xor__", "__lt__", "__le__", "__gt__", "__ge__"]
/-- an instance of one of the own classes -/
def otOb : D → Bool
  | .dict ((.str c', .none) :: _) => obNs.contains c'
  | _ => false
def gdOb (c m : Str) (fs : List Str) : List (Option D) → Bool
  | some d :: r => isOb c fs d && (if binN.contains m = true then (match r with
    | [some e] => isOb c fs e
    | _ => false) else if m == ("__eq__" : Str) then (match r with
    | [some (.int _)] => true
    | [some e] => isOb c fs e || otOb e
    | _ => false) else true)
  | _ => false
/-- what __len__ may return -/
def lenOk : D → Bool
  | .int n => decide (0 ≤ n) && decide (n < 4611686018427387904)
  | _ => false
/-- a method, where it may be called: what it is told of is an instance with these attributes -/
def MsAt (mg : Str → Option Value) (es : List (Str × Str)) (P : Program) (w : World) (K : PySem.W.Frag) (base : Heap) (cl : Cl) (oc : List (Str × List Str)) (k : Nat) (q : Str × Str × Str) : Prop :=
  ∃ fs fa, (q.2.1, fs) ∈ oc ∧ Meth K (He.ga K q.2.1) q.2.2 fa ∧ fs.contains q.2.2 = false ∧ FnR P w K mg base (L2N.CX P w) k fa (spG mg es K cl q.1) ∧
    (∀ as st z, cl q.1 as st = some z → gdOb q.2.1 q.2.2 fs as = true) ∧ (∀ as st z, cl (bang q.1) as st = some z → gdOb q.2.1 q.2.2 fs as = true) ∧ (q.2.2 = "__len__" → ∀ as st z, cl q.1 as st = some z → lenOk z.1 = true)
def gdMk : List (Option D) → Bool
  | [some (.tuple ds)] => decide (ds.length ≤ most)
  | _ => false
def MkAt (mg : Str → Option Value) (es : List (Str × Str)) (P : Program) (w : World) (K : PySem.W.Frag) (base : Heap) (cl : Cl) (k : Nat) (c : Str) : Prop :=
  ∃ fa, mg c = some (.ref (He.ga K c)) ∧ Mk K (He.ga K c) fa ∧ FnR P w K mg base (L2N.CX P w) k fa (spMk mg es K cl c) ∧
    (∀ as st z, cl c as st = some z → gdMk as = true) ∧ ∀ as st z, cl (bang c) as st = some z → gdMk as = true
/-- C.of(row) -/
def spOf (mg : Str → Option Value) (es : List (Str × Str)) (K : PySem.W.Frag) (cl : Cl) (c c2 f : Str) : Sp := fun vs H Q _ => ∃ a dx fs tp xs, vs = [.ref (He.ga K c), .ref a] ∧ H a = some (.ins (He.ga K c2) dx fs) ∧ fs.lookup f = some (.ref tp) ∧ SqT K H tp xs ∧
  ∀ q, H q = none → ∀ x dx', (upd H q (.lst xs)) x = none → (upd H q (.lst xs)) dx' = none → dx' ≠ x →
    spMk mg es K cl c (.ref x :: xs) (upd (upd (upd H q (.lst xs)) dx' (.own x)) x (.ins (He.ga K c) dx' [])) (fun v H2 => v = .non ∧ Q (.ref x) H2) L2.E0
def ItAt (mg : Str → Option Value) (es : List (Str × Str)) (P : Program) (w : World) (K : PySem.W.Frag) (base : Heap) (cl : Cl) (k : Nat) : Xt → Prop
  | .it c f => ∃ fi fl, Meth K (He.ga K c) "__iter__" fi ∧ FnR P w K mg base (L2N.CX P w) k fi (ObX.spIt K (He.ga K c) f) ∧ Meth K (He.ga K c) "__len__" fl ∧ FnR P w K mg base (L2N.CX P w) k fl (ObX.spLn K (He.ga K c) f)
  | .pr c m f => Cls K (He.ga K c) ∧ ∃ pa fa, PropOf K (He.ga K c) m pa fa ∧ FnR P w K mg base (L2N.CX P w) k fa (getSp (He.ga K c) f)
  | .nw c => mg c = some (.ref (He.ga K c)) ∧ PySem.W.makesIn K (He.ga K c) = true ∧ PySem.W.findIn K (.ref (He.ga K c)) "__init__" = some (some (.builtin "object.__init__")) ∧ PySem.W.keepIn K (.ref (He.ga K c)) = true ∧ ObC K (He.ga K c)
  | .of c m c2 f => mg c = some (.ref (He.ga K c)) ∧ ∃ mc pa fa, ClX.CRead K (He.ga K c) mc ∧ ClX.CMet K (He.ga K c) mc m pa fa ∧ FnR P w K mg base (L2N.CX P w) k fa (spOf mg es K cl c c2 f)
structure ObAt (oc : List (Str × List Str)) (ms : List (Str × Str × Str)) (mk : List Str) (its : List Xt) (es : List (Str × Str)) (cl : Cl) (P : Program) (w : World) (K : PySem.W.Frag) (mg : Str → Option Value) (base : Heap) (A : Around) : Prop where
  clf : ∀ q ∈ oc, ClF K mg q.1 q.2
  met : ∀ q ∈ ms, ∃ k, MsAt mg es P w K base cl oc k q ∧ Room (k + 2) A
  mkr : ∀ c ∈ mk, ∃ k, MkAt mg es P w K base cl k c ∧ Room (k + 1) A
  itr : ∀ q ∈ its, ∃ k, ItAt mg es P w K base cl k q ∧ Room (k + 3) A
/-- the same, where defs are told -/
structure ObAv (oc : List (Str × List Str)) (ms : List (Str × Str × Str)) (mk : List Str) (its : List Xt) (es : List (Str × Str)) (cl : Cl) (P : Program) (w : World) (K : PySem.W.Frag) (mg : Str → Option Value) (base : Heap) (k : Nat) : Prop where
  clf : ∀ q ∈ oc, ClF K mg q.1 q.2
  met : ∀ q ∈ ms, ∃ j, MsAt mg es P w K base cl oc j q ∧ j + 2 ≤ k
  mkr : ∀ c ∈ mk, ∃ j, MkAt mg es P w K base cl j c ∧ j + 1 ≤ k
  itr : ∀ q ∈ its, ∃ j, ItAt mg es P w K base cl j q ∧ j + 3 ≤ k
section
variable {oc : List (Str × List Str)} {ms : List (Str × Str × Str)} {mk : List Str} {its : List Xt} {es : List (Str × Str)} {cl : Cl} {P : Program} {w : World} {K : PySem.W.Frag} {mg : Str → Option Value} {base : Heap} {A : Around} {k : Nat}
theorem ObAv.at_ (a : ObAv oc ms mk its es cl P w K mg base k) (hr : Room k A) : ObAt oc ms mk its es cl P w K mg base A where
  clf := a.clf
  met := fun q hq => by
    obtain ⟨j, h1, h2⟩ := a.met q hq
    exact ⟨j, h1, hr.mono h2⟩
  mkr := fun q hq => by
    obtain ⟨j, h1, h2⟩ := a.mkr q hq
    exact ⟨j, h1, hr.mono h2⟩
  itr := fun q hq => by
    obtain ⟨j, h1, h2⟩ := a.itr q hq
    exact ⟨j, h1, hr.mono h2⟩
end
/-- a caught error, where its suite stands -/
structure CaughtAt (X : Cx) (a dd : Addr) (c fld : Str) : Prop where
  ex : ∃ (X0 : Cx) (oe : Obj) (pn : List (Addr × Obj)) (C : Addr), X = X0.suite a ((a, oe) :: pn) ∧ Zc (.ref C) (some dd) oe ∧ (∃ vs, oe.data = .fields vs) ∧ X.mg c = some (.ref C)
/-- what the errors' classes say -/
structure ErrFacts (Γ : Gam) (K : PySem.W.Frag) (mg : Str → Option Value) : Prop where
  cl : ∀ q ∈ Γ.es, ∀ C, mg q.1 = some (.ref C) → XfC K C ∧ ExcC K C ∧ PySem.W.findIn K (.ref C) q.2 = some none
  ki : ∀ q ∈ Γ.ks, ∀ C, mg q.1 = some (.ref C) → (∃ D, mg q.2.1 = some (.ref D) ∧ PySem.W.kitOne K (.ref C) (.ref D) = some q.2.2) ∨
    (∃ n : String, mg q.2.1 = none ∧ bootBuiltins q.2.1 = some (.type n) ∧ q.2.1 ≠ "__name__" ∧ PySem.W.kitOne K (.ref C) (.type n) = some q.2.2)
  tr : ∀ q ∈ Γ.ts, ∀ C, mg q.1 = some (.ref C) → ∃ D, mg q.2.1 = some (.ref D) ∧ PySem.W.exmOne K (.ref C) (.ref D) = some q.2.2
  gc : ∀ q ∈ Γ.gs, ∃ u v, mg q.1 = some u ∧ RelV v u ∧ ∀ B, Rp K B v q.2
def Cst.v : Cst → V
  | .non => .non
  | .bl b => .bl b
  | .int i => .int i
  | .str s => .str s
/-- a dict of the module with text keys -/
def DctAt (K : PySem.W.Frag) (w : World) (mg : Str → Option Value) (q : Str × List (Str × D)) : Prop := ∃ d es n, mg q.1 = some (.ref d) ∧ KDict K w d es n ∧
  ∀ z, (q.2.lookup z = none → PySem.W.nsIn K d z = some none) ∧ ∀ dd, q.2.lookup z = some dd → ∃ u v, PySem.W.nsIn K d z = some (some u) ∧ RelV v u ∧ ∀ B, Rp K B v dd
/-- how the last parameters are filled: by defaults (ks = []), or told by keywords ks -/
structure BindsO (K : PySem.W.Frag) (fd : FuncData) (ps : List Str) (cs : List Cst) (ks : List Str) : Prop where
  d : ks = [] → ∃ us, Binds K fd ps us ∧ Vals (cs.map Cst.v) us
  w : ks ≠ [] → ∀ (s : Shared) (us ws : List Value), K.In s.heap → ws.length = ks.length → (us ++ ws).length = ps.length → BindsTo s fd ⟨us, ks.zip ws⟩ (ps.zip (us ++ ws))
/-- where a lambda may be made -/
def LmAt (X : Cx) : Prop := ∃ c P, X.env.code = .ref c ∧ LamX.TabB X.base X.mg c P ∧ (P, X.env.qual ++ "<lambda>") ∈ tabK X.K ∧ ∀ t ∈ tabK X.K, t.1 = P → t.2 = X.env.qual ++ "<lambda>"
structure Okx (Γ : Gam) (X : Cx) (p : Pa) : Prop where
  K : X.K = Γ.K
  N : X.N = Γ.N
  nd : Γ.N.Nodup
  sc : X.env.scope = Γ.sc
  calm : Γ.hot = false → X.calm = true
  hotc : Γ.hot = true → L2H.HotC X
  units : X.A.units + 100 < cLine
  fn : Γ.hot = false → ∀ f ∈ Γ.fs, ∃ fa fd ps k, FnOk X.prog X.w X.K X.mg X.base (L2N.CX X.prog X.w) k fa fd ps (spF Γ.K Γ.cl f) ∧ X.mg f = some (.ref fa) ∧ PySem.W.keepIn X.K (.ref fa) = true ∧ Binds X.K fd ps [] ∧ Room k X.A
  fnh : ∀ f ∈ Γ.hs, ∃ fa fd ps k, L2H.FnH X.prog X.w X.K X.mg X.base (L2N.CX X.prog X.w) k fa fd ps (spF Γ.K Γ.cl (hotN f)) ∧ X.mg f = some (.ref fa) ∧ PySem.W.keepIn X.K (.ref fa) = true ∧ Binds X.K fd ps [] ∧ L2H.RoomH k X.A
  bl : ∀ f ∈ Γ.bs, X.mg f = none
  xn : Γ.hot = false → ∀ f ∈ Γ.xs, ∃ fa fd ps k, FnOk X.prog X.w X.K X.mg X.base (L2N.CX X.prog X.w) k fa fd ps (spG X.mg Γ.es Γ.K Γ.cl f) ∧ X.mg f = some (.ref fa) ∧ PySem.W.keepIn X.K (.ref fa) = true ∧ Binds X.K fd ps [] ∧ Room k X.A
  er : Γ.hot = false → ∀ q ∈ Γ.es, ∃ C, ErrAt X q.1 q.2 C
  df : Γ.hot = false → ∀ q ∈ Γ.df, ∃ fa fd ps k, FnOk X.prog X.w X.K X.mg X.base (L2N.CX X.prog X.w) k fa fd ps (spG X.mg Γ.es Γ.K Γ.cl q.1) ∧ X.mg q.1 = some (.ref fa) ∧ PySem.W.keepIn X.K (.ref fa) = true ∧ BindsO X.K fd ps q.2.1 q.2.2 ∧ Room k X.A
  gn : Γ.hot = false → ∀ f ∈ Γ.gn, ∃ fa fd ps k, GFn X.prog X.w X.K X.mg X.base k fa fd ps (spL Γ.K Γ.cl f) ∧ X.mg f = some (.ref fa) ∧ PySem.W.keepIn X.K (.ref fa) = true ∧ Binds X.K fd ps [] ∧ Room (k + 3) X.A ∧ ∀ as st d st', Γ.cl f as st = some (d, st') → ∃ ys, d = PyData.list ys
  lk : Γ.hot = false → p.lk = noLk
  lkh : ∀ a dd c f, p.lk a dd c f → (c, f) ∈ Γ.es ∧ CaughtAt X a dd c f
  ef : ErrFacts Γ X.K X.mg
  tb : p.tb = tabK Γ.K
  kd : ∀ q ∈ Γ.kd, DctAt X.K X.w X.mg q
  lx : Γ.hot = false → ∀ f ∈ Γ.lx, ∃ fa fd ps k, FnOk X.prog X.w X.K X.mg X.base (L2N.CX X.prog X.w) k fa fd ps (spF Γ.K Γ.cl f) ∧ X.mg f = some (.ref fa) ∧ PySem.W.keepIn X.K (.ref fa) = true ∧ Binds X.K fd ps [] ∧ Room (k + 3) X.A
  lm : Γ.lm = true → LmAt X
  ob : Γ.hot = false → ObAt Γ.oc Γ.ms Γ.mkr Γ.its Γ.es Γ.cl X.prog X.w X.K X.mg X.base X.A
def GlS (sc : Scope) (x : Str) : Prop := sc.names.lookup x = some .globalImplicit
theorem Okx.gl {Γ : Gam} {X : Cx} {p : Pa} (o : Okx Γ X p) {x : Str} (h : GlS Γ.sc x) : Gl X x := by
  show X.env.scope.names.lookup x = _
  rw [o.sc]
  exact h
def Gam.blk (Γ : Gam) (scope : Scope) : Gam := { Γ with sc := relS scope Γ.sc }
theorem Okx.blk {Γ : Gam} {X : Cx} {p : Pa} (o : Okx Γ X p) (hh : Γ.hot = false) (scope : Scope) (s : Shared) (H : Hp) (C : Addr) (cl : List (Str × Addr)) (fp : List Addr) : Okx (Γ.blk scope) (X.blk s H scope (compEnvC scope cl C X.env) fp) p where
  K := o.K
  N := o.N
  nd := o.nd
  sc := by
    show relabel scope X.env = relS scope Γ.sc
    unfold relabel relS
    rw [← o.sc]
    rfl
  calm := o.calm
  hotc := fun z => by
    rw [show (Γ.blk scope).hot = Γ.hot from rfl, hh] at z
    cases z
  units := o.units
  fn := o.fn
  fnh := o.fnh
  bl := o.bl
  xn := o.xn
  er := fun z q hq => by
    obtain ⟨C, h⟩ := o.er z q hq
    exact ⟨C, h.mg, h.oex, h.def_⟩
  df := o.df
  gn := o.gn
  lk := o.lk
  lkh := fun a dd c f h => by
    rw [o.lk hh] at h
    exact h.elim
  ef := ⟨o.ef.cl, o.ef.ki, o.ef.tr, o.ef.gc⟩
  tb := o.tb
  kd := o.kd
  lx := o.lx
  lm := o.lm
  ob := o.ob
/-- a comprehension's own name: plain, or captured by what stands in it -/
def LcN (scope sc : Scope) (x : Str) : Prop := (relS scope sc).names.lookup x = some .local ∨ ((relS scope sc).names.lookup x = some .cell ∧ scope.names.lookup x = some .cell)
theorem LcN.loc {scope sc sc' : Scope} {x : Str} (h : LcN scope sc x) (e : sc' = relS scope sc) : Loc sc' x := by
  rw [e]
  rcases h with h | h
  · exact .inl h
  · exact .inr h.1
theorem LcN.fn {scope sc sc' : Scope} {x : Str} (h : LcN scope sc x) (e : sc' = relS scope sc) : (scope.names.lookup x == some .cell) = true ∨ sc'.names.lookup x = some .local := by
  rw [e]
  rcases h with h | h
  · exact .inr h
  · exact .inl (by rw [h.2]; rfl)
def Tx (K : PySem.W.Frag) (cl : Cl) (p : Pa) (e : IE) : TE := fun σ H Q => ∃ st B M F env d st', Rel K p st B M F env σ H ∧ ev cl e env st = some (d, st') ∧
  ∀ v B' H', Ex B B' → Rel K p st' B' M F env σ H' → Rp K B' v d → Q v H'
def Tt (K : PySem.W.Frag) (cl : Cl) (p : Pa) (e : IE) : TT := fun σ H Q => ∃ st B M F env b st', Rel K p st B M F env σ H ∧ ev cl e env st = some (.bool b, st') ∧
  ∀ B' H', Ex B B' → Rel K p st' B' M F env σ H' → Q b H'
def Ts (K : PySem.W.Frag) (cl : Cl) (p : Pa) (es : IEs) : TT := fun σ H Q => ∃ st B M F env b st', Rel K p st B M F env σ H ∧ et cl es env st = some (b, st') ∧
  ∀ B' H', Ex B B' → Rel K p st' B' M F env σ H' → Q b H'
def Ta (K : PySem.W.Frag) (cl : Cl) (p : Pa) (es : IEs) : TA := fun σ H Q => ∃ st B M F env ds st', Rel K p st B M F env σ H ∧ ea cl es env st = some (ds, st') ∧
  ∀ vs B' H', Ex B B' → Rel K p st' B' M F env σ H' → RpA K B' vs ds → Q vs H'
def Tg (K : PySem.W.Frag) (cl : Cl) (p : Pa) (es : IEs) : TA := fun σ H Q => ∃ st B M F env ds st', Rel K p st B M F env σ H ∧ ag cl es env st = some (ds, st') ∧
  ∀ vs B' H', Ex B B' → Rel K p st' B' M F env σ H' → ArA K p B' vs ds → Q vs H'
/-- a new list -/
def Tf (K : PySem.W.Frag) (cl : Cl) (p : Pa) (e : IE) : TE := fun σ H Q => ∃ st B M F env ds st', Rel K p st B M F env σ H ∧ ev cl e env st = some (.list ds, st') ∧
  ∀ a xs B' H', Ex B B' → B' a = none → M a = none → F a = none → NotP p a → H' a = some (.lst xs) → RpA K B' xs ds → Rel K p st' B' M F env σ H' → Q (.ref a) H'
section
variable {X : Cx} {e : Expr} {te te' : TE} {tt tt' : TT}
theorem PE_weak (h : PE X e te) (w : ∀ σ H Q, te' σ H Q → te σ H Q) : PE X e te' := ⟨fun pins s σ H Q I q => h.run pins s σ H Q I (w σ H Q q)⟩
theorem PT_weak (h : PT X e tt) (w : ∀ σ H Q, tt' σ H Q → tt σ H Q) : PT X e tt' := ⟨fun pins s σ H Q I q => h.run pins s σ H Q I (w σ H Q q)⟩
theorem PW_weak (h : PW X e tt) (w : ∀ σ H Q, tt' σ H Q → tt σ H Q) : PW X e tt' := ⟨fun wh pins s σ H Q I q => h.run wh pins s σ H Q I (w σ H Q q)⟩
theorem PA_weak {es : List Expr} {ta ta' : TA} (h : PA X es ta) (w : ∀ σ H Q, ta' σ H Q → ta σ H Q) : PA X es ta' := ⟨fun pos pins s σ H Q I q => h.run pos pins s σ H Q I (w σ H Q q)⟩
theorem PS_weak {st : Stmt} {t t' : TS} (h : PS X st t) (w : ∀ D σ H, t' D σ H → t D σ H) : PS X st t' := ⟨fun pins s σ H D I q => h.run pins s σ H D I (w D σ H q)⟩
theorem PSs_weak {st : List Stmt} {t t' : TS} (h : PSs X st t) (w : ∀ D σ H, t' D σ H → t D σ H) : PSs X st t' := ⟨fun pins s σ H D I q => h.run pins s σ H D I (w D σ H q)⟩
theorem PTs_weak {es : List Expr} (h : PTs X es tt) (w : ∀ σ H Q, tt' σ H Q → tt σ H Q) : PTs X es tt' := ⟨fun pins s σ H Q I q => h.run pins s σ H Q I (w σ H Q q)⟩
end
def SE (Γ : Gam) (e : Expr) (i : IE) : Prop := ∀ X p, Okx Γ X p → PE X e (Tx Γ.K Γ.cl p i)
def SF (Γ : Gam) (e : Expr) (i : IE) : Prop := ∀ X p, Okx Γ X p → PE X e (Tf Γ.K Γ.cl p i)
def ST (Γ : Gam) (e : Expr) (i : IE) : Prop := ∀ X p, Okx Γ X p → PT X e (Tt Γ.K Γ.cl p i)
def SW (Γ : Gam) (e : Expr) (i : IE) : Prop := ∀ X p, Okx Γ X p → PW X e (Tt Γ.K Γ.cl p i)
def SA (Γ : Gam) (es : List Expr) (i : IEs) : Prop := ∀ X p, Okx Γ X p → PA X es (Ta Γ.K Γ.cl p i)
def SG (Γ : Gam) (es : List Expr) (i : IEs) : Prop := ∀ X p, Okx Γ X p → PA X es (Tg Γ.K Γ.cl p i)
def STs (Γ : Gam) (es : List Expr) (i : IEs) : Prop := ∀ X p, Okx Γ X p → PTs X es (Ts Γ.K Γ.cl p i)
section
variable {K : PySem.W.Frag} {p : Pa} {st : Pl} {B M F : Hp} {env : List Sl} {σ : L2.St} {H : Hp}
/-- an own, new object becomes known -/
theorem Rel.know (r : Rel K p st B M F env σ H) {a : Addr} {o : HO} (h : H a = some o) (hb : B a = none) (hm : M a = none) (hf : F a = none) (hp : NotP p a) : Rel K p st (upd B a o) M F env σ H where
  bs := {
    b := fun c u e => by
      by_cases hc : c = a
      · subst hc
        rw [upd_same] at e
        rw [← e]
        exact h
      · rw [upd_ne hc] at e
        exact r.bs.b c u e
    f := r.bs.f
    d := fun c u e => by
      rw [upd_ne (ne_of_none e hf)]
      exact r.bs.d c u e
    pf := r.bs.pf
    pb := by
      rw [upd_ne (fun e => hp.1 e.symm)]
      exact r.bs.pb
    pl := by
      obtain ⟨h1, h2⟩ := r.bs.pl
      exact ⟨h1, Ex.new hb _ _ h2⟩
    ce := r.bs.ce.up (fun k c hk => ⟨by rw [upd_ne (fun e => hp.2.1 k (by rw [← e]; exact hk))]; exact (r.bs.ce.b k c hk).1, (r.bs.ce.b k c hk).2.1⟩) (fun _ _ _ => rfl) (fun q hq => ⟨by rw [upd_ne (hp.2.2 q hq)]; exact (r.bs.ce.tn q hq).1, (r.bs.ce.tn q hq).2⟩) fun z => z }
  m := r.m
  mc := r.mc
  mt := r.mt
  md := fun c u e => by
    obtain ⟨h1, h2, h3⟩ := r.md c u e
    refine ⟨?_, h2, h3⟩
    rw [upd_ne (ne_of_none e hm)]
    exact h1
  en := r.en.mono (Ex.new hb)
end
section
variable {Γ : Gam} {e a b c : Expr} {ia ib ic i : IE} {pos : Pos}
/-- a new list, as a value -/
theorem SF.se (h : SF Γ e i) (hl : ∀ cl env st d st', ev cl i env st = some (d, st') → ∃ ds, d = .list ds) : SE Γ e i := fun X p o => PE_weak (h X p o) fun σ H Q q => by
  obtain ⟨st, B, M, F, env, d, st', r, he, k⟩ := q
  obtain ⟨ds, rfl⟩ := hl _ _ _ _ _ he
  refine ⟨st, B, M, F, env, ds, st', r, he, fun a xs B' H' e1 hb hm hf hp ha hr r' => ?_⟩
  exact k (.ref a) _ H' (e1.trans (Ex.new hb)) (r'.know ha hb hm hf hp) (.lst upd_same (hr.mono (Ex.new hb)))
theorem se_var (n : Nat) {x : Str} (hN : Γ.N[n]? = some x := by rfl) (hv : Vis Γ.sc x := by first | exact Or.inl rfl | exact Or.inr (Or.inl rfl) | exact Or.inr (Or.inr rfl)) (hd : (x == ("__debug__" : Str)) = false := by decide) (hcd : (x == ("__classdict__" : Str)) = false := by decide) :
    SE Γ (.Name x pos) (.var n) := fun X p o => PE_weak (pe_var (i := n) (by rw [o.N]; exact hN) (by rw [o.sc]; exact hv) hd hcd) fun σ H Q q => by
  obtain ⟨st, B, M, F, env, d, st', r, he, k⟩ := q
  unfold ev at he
  split at he
  · rename_i d' e1
    cases he
    obtain ⟨ov, h1, h2⟩ := r.en.at_ n _ e1
    cases ov with
    | none => exact h2.elim
    | some v => exact ⟨v, h1, k v B H (Ex.refl B) r h2⟩
  · cases he
theorem se_cst {K : PySem.W.Frag} (c : Cst) {v : V} (h : ∀ X : Cx, PE X e (tC v)) (hv : ∀ K B, Rp K B v c.d) : SE Γ e (.cst c) := fun X p o => PE_weak (h X) fun σ H Q q => by
  obtain ⟨st, B, M, F, env, d, st', r, he, k⟩ := q
  unfold ev at he
  cases he
  exact k v B H (Ex.refl B) r (hv _ B)
theorem se_int {n : Int} {j} : SE Γ (.Constant (.int n) j pos) (.cst (.int n)) := se_cst (K := Γ.K) (.int n) (fun _ => pe_int) fun _ _ => .int n
theorem se_bl {x : Bool} {j} : SE Γ (.Constant (.bool x) j pos) (.cst (.bl x)) := se_cst (K := Γ.K) (.bl x) (fun _ => pe_bl) fun _ _ => .bl x
theorem se_non {j} : SE Γ (.Constant .none j pos) (.cst .non) := se_cst (K := Γ.K) .non (fun _ => pe_non) fun _ _ => .non
/-- two operands -/
theorem tx_bin {K : PySem.W.Frag} {cl : Cl} {i : IE} {r : R2} {σ : L2.St} {H : Hp} {Q : VK} {f : D → D → Option D} (hi : ∀ env st, ev cl i env st = (match ev cl ia env st with
    | some (x, st1) => (match ev cl ib env st1 with
      | some (y, st2) => (f x y).map fun d => (d, st2)
      | none => none)
    | none => none))
    (hr : ∀ {st B M F env x y z v u H}, Rel K p st B M F env σ H → Rp K B v x → Rp K B u y → f x y = some z → ∀ Q : VK, (∀ w B' H', Ex B B' → Rel K p st B' M F env σ H' → Rp K B' w z → Q w H') → r v u H Q)
    (q : Tx K cl p i σ H Q) : tOp r (Tx K cl p ia) (Tx K cl p ib) σ H Q := by
  obtain ⟨st, B, M, F, env, d, st', rl, he, k⟩ := q
  rw [hi] at he
  cases e1 : ev cl ia env st with
  | none =>
    rw [e1] at he
    cases he
  | some xs =>
    obtain ⟨x, st1⟩ := xs
    rw [e1] at he
    cases e2 : ev cl ib env st1 with
    | none =>
      simp only [e2] at he
      cases he
    | some ys =>
      obtain ⟨y, st2⟩ := ys
      simp only [e2] at he
      cases e3 : f x y with
      | none =>
        rw [e3] at he
        cases he
      | some z =>
        rw [e3] at he
        cases he
        exact ⟨st, B, M, F, env, x, st1, rl, e1, fun v B1 H1 x1 r1 p1 => ⟨st1, B1, M, F, env, y, _, r1, e2, fun u B2 H2 x2 r2 p2 =>
          hr r2 (p1.mono x2) p2 e3 Q fun w B' H' x3 r3 p3 => k w B' H' ((x1.trans x2).trans x3) r3 p3⟩⟩
end
end Ip

set_option Elab.async false
set_option linter.all false
set_option maxRecDepth 100000
set_option maxHeartbeats 4000000
namespace Ip
open PySem L2
theorem most_line {n : Nat} (h : n ≤ most) : n ≤ sizeLine := Nat.le_trans h (by decide)
theorem most_lt {n : Nat} (h : n < most) : n < sizeLine := Nat.lt_of_lt_of_le h (by decide)
theorem ite_some {c : Prop} [Decidable c] {α : Type} {x z : α} (h : (if c then some x else none) = some z) : c ∧ x = z := by
  by_cases hc : c
  · rw [if_pos hc] at h
    exact ⟨hc, Option.some.inj h⟩
  · rw [if_neg hc] at h
    cases h
section
variable {Γ : Gam} {e a b c : Expr} {ia ib ic i : IE} {pos : Pos}
theorem bin_add (ha : SE Γ a ia) (hb : SE Γ b ib) : SE Γ (.BinOp a .Add b pos) (.bin .add ia ib) := fun X p o => PE_weak (pe_op (OpR.or (OpR.or op_add op_add_str) (OpR.or op_cat op_catA)) (ha X p o) (hb X p o)) fun σ H Q q => by
  refine tx_bin (f := binD .add) (fun env st => rfl) ?_ q
  intro st B M F env x y z v u H r px py h Q k
  rw [o.K]
  cases px with
  | int i =>
    cases py with
    | int j =>
      cases h
      exact .inl (.inl ⟨i, j, rfl, rfl, k _ B H (Ex.refl B) r (.int _)⟩)
    | _ => cases h
  | str s =>
    cases py with
    | str t =>
      obtain ⟨hl, rfl⟩ := ite_some (show (if s.length + t.length ≤ most then some (PyData.str (s ++ t)) else none) = some z from h)
      exact .inl (.inr ⟨s, t, rfl, rfl, most_line hl, k _ B H (Ex.refl B) r (.str _)⟩)
    | _ => cases h
  | @lst _ _ xs hx rx =>
    cases py with
    | @lst _ _ ys hy ry =>
      obtain ⟨hl, rfl⟩ := ite_some (show (if xs.length + ys.length ≤ most then some (PyData.list (xs ++ ys)) else none) = some z from h)
      · refine .inr (.inl ⟨_, _, _, _, rfl, rfl, r.bs.b _ _ hx, r.bs.b _ _ hy, most_line (by rw [rx.length, ry.length]; exact hl), fun q hq => ?_⟩)
        exact k (.ref q) _ _ (Ex.new (r.bs.b.free hq)) (r.new hq) (.lst upd_same ((rx.append ry).mono (Ex.new (r.bs.b.free hq))))
    | _ => cases h
  | @tup _ _ xs hx rx =>
    cases py with
    | @tup _ _ ys hy ry =>
      obtain ⟨hl, rfl⟩ := ite_some (show (if xs.length + ys.length ≤ most then some (PyData.tuple (xs ++ ys)) else none) = some z from h)
      · refine .inr (.inr ⟨_, _, _, _, rfl, rfl, sqt_mono r.bs.b hx, sqt_mono r.bs.b hy, most_line (by rw [rx.length, ry.length]; exact hl), fun e => ?_, fun e1 e2 => ?_, fun e1 e2 q hq => ?_⟩)
        · subst e
          cases rx
          exact k _ B H (Ex.refl B) r (.tup hy ry)
        · subst e2
          cases ry
          rw [List.append_nil] at k
          exact k _ B H (Ex.refl B) r (.tup hx rx)
        · exact k (.ref q) _ _ (Ex.new (r.bs.b.free hq)) (r.new hq) (.tup (Or.inl (Or.inl upd_same)) ((rx.append ry).mono (Ex.new (r.bs.b.free hq))))
    | _ => cases h
  | _ => cases h
theorem bin_int {op : Operator} {o : Bop} {C : Int → Int → Prop} {g : Int → Int → Int} (hop : ∀ X : Cx, OpR X (binaryOp op) (rI C fun i j => .int (g i j)))
    (hd : ∀ x y z, binD o x y = some z → ∃ i j, x = .int i ∧ y = .int j ∧ C i j ∧ z = .int (g i j)) (ha : SE Γ a ia) (hb : SE Γ b ib) : SE Γ (.BinOp a op b pos) (.bin o ia ib) := fun X p ok => PE_weak (pe_op (hop X) (ha X p ok) (hb X p ok)) fun σ H Q q => by
  refine tx_bin (f := binD o) (fun env st => by cases o <;> rfl) ?_ q
  intro st B M F env x y z v u H r px py h Q k
  obtain ⟨i, j, rfl, rfl, hc, rfl⟩ := hd _ _ _ h
  cases px
  cases py
  exact ⟨i, j, rfl, rfl, hc, k _ B H (Ex.refl B) r (.int _)⟩
theorem bin_sub (ha : SE Γ a ia) (hb : SE Γ b ib) : SE Γ (.BinOp a .Sub b pos) (.bin .sub ia ib) :=
  bin_int (C := fun _ _ => True) (g := fun i j => i - j) (fun X pins s σ H x y v u Q I rx ry ⟨i, j, e1, e2, _, q⟩ => op_sub pins s σ H x y v u Q I rx ry ⟨i, j, e1, e2, q⟩)
    (fun x y z h => by cases x <;> cases y <;> first | (cases h; done) | exact ⟨_, _, rfl, rfl, True.intro, (Option.some.inj h).symm⟩) ha hb
theorem bin_mul (ha : SE Γ a ia) (hb : SE Γ b ib) : SE Γ (.BinOp a .Mult b pos) (.bin .mul ia ib) := fun X p o => PE_weak (pe_op (OpR.or op_mul op_mul_sgn) (ha X p o) (hb X p o)) fun σ H Q q => by
  refine tx_bin (f := binD .mul) (fun env st => rfl) ?_ q
  intro st B M F env x y z v u H r px py h Q k
  cases px with
  | int i =>
    cases py with
    | int j =>
      obtain ⟨hl, rfl⟩ := ite_some (show (if i.natAbs < 2 ^ 64 ∨ j.natAbs < 2 ^ 64 then some (PyData.int (i * j)) else none) = some z from h)
      refine .inl ⟨i, j, rfl, rfl, ?_, k _ B H (Ex.refl B) r (.int _)⟩
      rcases hl with hl | hl
      · exact .inl (by omega)
      · exact .inr (by omega)
    | _ => cases h
  | str s =>
    cases py with
    | int j =>
      obtain ⟨⟨h1, h2, h3⟩, rfl⟩ := ite_some (show (if s.length = 1 ∧ -1000 ≤ j ∧ j ≤ 1000 then some (PyData.str (repS s j)) else none) = some z from h)
      exact .inr ⟨s, j, rfl, rfl, h1, h2, h3, k _ B H (Ex.refl B) r (.str _)⟩
    | _ => cases h
  | _ => cases h
theorem bin_fdv (ha : SE Γ a ia) (hb : SE Γ b ib) : SE Γ (.BinOp a .FloorDiv b pos) (.bin .fdv ia ib) :=
  bin_int (C := CDiv) (g := fun i j => i / j) (fun _ => op_fdiv) (fun x y z h => by
    cases x <;> cases y <;> first | (cases h; done) | skip
    rename_i i j
    obtain ⟨hl, rfl⟩ := ite_some (show (if 0 < j ∧ j < 1073741824 then some (PyData.int (i / j)) else none) = some z from h)
    exact ⟨_, _, rfl, rfl, hl, rfl⟩) ha hb
theorem bin_mod (ha : SE Γ a ia) (hb : SE Γ b ib) : SE Γ (.BinOp a .Mod b pos) (.bin .mod ia ib) :=
  bin_int (C := fun _ j => 0 < j) (g := fun i j => i % j) (fun _ => op_mod) (fun x y z h => by
    cases x <;> cases y <;> first | (cases h; done) | skip
    rename_i i j
    obtain ⟨hl, rfl⟩ := ite_some (show (if 0 < j then some (PyData.int (i % j)) else none) = some z from h)
    exact ⟨_, _, rfl, rfl, hl, rfl⟩) ha hb
theorem bin_pow (ha : SE Γ a ia) (hb : SE Γ b ib) : SE Γ (.BinOp a .Pow b pos) (.bin .pow ia ib) :=
  bin_int (C := CPow) (g := fun i j => i ^ j.toNat) (fun _ => op_pow) (fun x y z h => by
    cases x <;> cases y <;> first | (cases h; done) | skip
    rename_i i j
    obtain ⟨hl, rfl⟩ := ite_some (show (if 0 ≤ j ∧ j ≤ 64 ∧ i.natAbs < 2 ^ 64 then some (PyData.int (i ^ j.toNat)) else none) = some z from h)
    exact ⟨_, _, rfl, rfl, ⟨hl.1, by omega, hl.2.2⟩, rfl⟩) ha hb
theorem tx_cmp {K : PySem.W.Frag} {cl : Cl} {o : Cop} {r : R2} {σ : L2.St} {H : Hp} {Q : VK}
    (hr : ∀ {st B M F env x y z v u H}, Rel K p st B M F env σ H → Rp K B v x → Rp K B u y → cmpD o x y = some z → ∀ Q : VK, Q (.bl z) H → r v u H Q)
    (q : Tx K cl p (.cmp o ia ib) σ H Q) : tOp r (Tx K cl p ia) (Tx K cl p ib) σ H Q := by
  obtain ⟨st, B, M, F, env, d, st', rl, he, k⟩ := q
  unfold ev at he
  cases e1 : ev cl ia env st with
  | none =>
    rw [e1] at he
    cases he
  | some xs =>
    obtain ⟨x, st1⟩ := xs
    rw [e1] at he
    cases e2 : ev cl ib env st1 with
    | none =>
      simp only [e2] at he
      cases he
    | some ys =>
      obtain ⟨y, st2⟩ := ys
      simp only [e2] at he
      cases e3 : cmpD o x y with
      | none =>
        rw [e3] at he
        cases he
      | some z =>
        rw [e3] at he
        cases he
        exact ⟨st, B, M, F, env, x, st1, rl, e1, fun v B1 H1 x1 r1 p1 => ⟨st1, B1, M, F, env, y, _, r1, e2, fun u B2 H2 x2 r2 p2 =>
          hr r2 (p1.mono x2) p2 e3 Q (k _ B2 H2 (x1.trans x2) r2 (.bl _))⟩⟩
theorem tt_cmp {K : PySem.W.Frag} {cl : Cl} {o : Cop} {r : R2} {σ : L2.St} {H : Hp} {Q : Bool → Hp → Prop}
    (hr : ∀ {st B M F env x y z v u H}, Rel K p st B M F env σ H → Rp K B v x → Rp K B u y → cmpD o x y = some z → ∀ Q : VK, Q (.bl z) H → r v u H Q)
    (q : Tt K cl p (.cmp o ia ib) σ H Q) : tTest (tOp r (Tx K cl p ia) (Tx K cl p ib)) σ H Q := by
  obtain ⟨st, B, M, F, env, b, st', rl, he, k⟩ := q
  refine tx_cmp hr ⟨st, B, M, F, env, _, st', rl, he, fun v B' H' x r pv => ?_⟩
  cases pv
  exact ⟨b, rfl, k B' H' x r⟩
/-- a comparison's rule, over data -/
structure CmpOk (op : CmpOp) (o : Cop) where
  r : PySem.W.Frag → R2
  ok : ∀ X : Cx, X.A.units + 65 < cLine → OpR X (compareOp op) (r X.K)
  rd : ∀ {K σ p st B M F env x y z v u H}, Rel K p st B M F env σ H → Rp K B v x → Rp K B u y → cmpD o x y = some z → ∀ Q : VK, Q (.bl z) H → r K v u H Q
theorem cmp_se {op : CmpOp} {o : Cop} (C : CmpOk op o) (ha : SE Γ a ia) (hb : SE Γ b ib) (hm : behindInMarks op b = false) : SE Γ (.Compare a [op] [b] pos) (.cmp o ia ib) := fun X p ok =>
  PE_weak (pe_cmpR (C.ok X (by have := ok.units; omega)) (ha X p ok) (hb X p ok) hm) fun σ H Q q => by
    rw [ok.K]
    exact tx_cmp (fun r1 p1 p2 e Q q => C.rd r1 p1 p2 e Q q) q
theorem cmp_st {op : CmpOp} {o : Cop} (C : CmpOk op o) (ha : SE Γ a ia) (hb : SE Γ b ib) (hm : behindInMarks op b = false) : ST Γ (.Compare a [op] [b] pos) (.cmp o ia ib) := fun X p ok =>
  PT_weak (pt_cmpR (C.ok X (by have := ok.units; omega)) (ha X p ok) (hb X p ok) hm) fun σ H Q q => by
    rw [ok.K]
    exact tt_cmp (fun r1 p1 p2 e Q q => C.rd r1 p1 p2 e Q q) q
theorem eq_rd {K : PySem.W.Frag} {σ : L2.St} {p : Pa} {st : Pl} {B M F : Hp} {env : List Sl} {x y : D} {z : Bool} {v u : V} {H : Hp} (r : Rel K p st B M F env σ H) (px : Rp K B v x) (py : Rp K B u y) (h : eqD x y = some z) :
    (scal v u = true ∧ decide (v = u) = z) ∨ (SeqAt.shaped x = true ∧ SeqAt.shaped y = true ∧ PyData.eqv x y = z) := by
  have sh : (if SeqAt.shaped x = true ∧ SeqAt.shaped y = true then some (PyData.eqv x y) else none) = some z → SeqAt.shaped x = true ∧ SeqAt.shaped y = true ∧ PyData.eqv x y = z := fun h => by
    obtain ⟨hl, e⟩ := ite_some h
    exact ⟨hl.1, hl.2, e⟩
  cases px with
  | str s =>
    cases py with
    | str t =>
      refine .inl ⟨rfl, ?_⟩
      cases h
      simp
    | int i =>
      cases h
      exact .inl ⟨rfl, by simp⟩
    | _ => exact .inr (sh h)
  | int i =>
    cases py with
    | int j =>
      refine .inl ⟨rfl, ?_⟩
      cases h
      simp
    | str t =>
      cases h
      exact .inl ⟨rfl, by simp⟩
    | _ => exact .inr (sh h)
  | bl a =>
    cases py with
    | bl b =>
      refine .inl ⟨rfl, ?_⟩
      cases h
      simp
    | _ => exact .inr (sh h)
  | _ => exact .inr (sh (by cases py <;> exact h))
def cEq : CmpOk .Eq .eq where
  r := fun K x y H Q => rEq x y H Q ∨ rEqD K x y H Q
  ok := fun X hu => OpR.or op_eq (op_eqD (by omega))
  rd := fun {K σ p st B M F env x y z v u H} r px py h Q q => by
    rcases eq_rd (σ := σ) r px py h with ⟨h1, h2⟩ | ⟨h1, h2, h3⟩
    · exact .inl ⟨h1, by rw [h2]; exact q⟩
    · exact .inr ⟨x, y, Rp.dp r.bs.b (noObj_shaped h1) px, Rp.dp r.bs.b (noObj_shaped h2) py, h1, h2, by rw [h3]; exact q⟩
def cNe : CmpOk .NotEq .ne where
  r := fun K x y H Q => rNe x y H Q ∨ rNeD K x y H Q
  ok := fun X hu => OpR.or op_ne (op_neD (by omega))
  rd := fun {K σ p st B M F env x y z v u H} r px py h Q q => by
    obtain ⟨w, hw, rfl⟩ := Option.map_eq_some_iff.mp (show (eqD x y).map (!·) = some z from h)
    rcases eq_rd (σ := σ) r px py hw with ⟨h1, h2⟩ | ⟨h1, h2, h3⟩
    · exact .inl ⟨h1, by rw [h2]; exact q⟩
    · exact .inr ⟨x, y, Rp.dp r.bs.b (noObj_shaped h1) px, Rp.dp r.bs.b (noObj_shaped h2) py, h1, h2, by rw [h3]; exact q⟩
def cInt {op : CmpOp} {o : Cop} (g : Int → Int → Bool) (hop : ∀ X : Cx, OpR X (compareOp op) (rI0 fun i j => .bl (g i j))) (hd : ∀ x y z, cmpD o x y = some z → ∃ i j, x = .int i ∧ y = .int j ∧ z = g i j) : CmpOk op o where
  r := fun _ => rI0 fun i j => .bl (g i j)
  ok := fun X _ => hop X
  rd := fun {K σ p st B M F env x y z v u H} r px py h Q q => by
    obtain ⟨i, j, rfl, rfl, rfl⟩ := hd _ _ _ h
    cases px
    cases py
    exact ⟨i, j, rfl, rfl, q⟩
def cLt : CmpOk .Lt .lt := cInt (fun i j => decide (i < j)) (fun _ => op_lt) fun x y z h => by cases x <;> cases y <;> first | (cases h; done) | exact ⟨_, _, rfl, rfl, (Option.some.inj h).symm⟩
def cGt : CmpOk .Gt .gt := cInt (fun i j => decide (j < i)) (fun _ => op_gt) fun x y z h => by cases x <;> cases y <;> first | (cases h; done) | exact ⟨_, _, rfl, rfl, (Option.some.inj h).symm⟩
def cGe : CmpOk .GtE .ge := cInt (fun i j => decide (j ≤ i)) (fun _ => op_ge) fun x y z h => by cases x <;> cases y <;> first | (cases h; done) | exact ⟨_, _, rfl, rfl, (Option.some.inj h).symm⟩
theorem isNon_rp {K : PySem.W.Frag} {B : Hp} {v : V} {x : D} (h : Rp K B v x) : decide (v = .non) = (match x with
    | .none => true
    | _ => false) := by
  cases h <;> simp
def cIs : CmpOk .Is .isN where
  r := fun _ => fun x y H Q => y = .non ∧ Q (.bl (decide (x = .non))) H
  ok := fun X _ => op_isN
  rd := fun {K σ p st B M F env x y z v u H} r px py h Q q => by
    cases py with
    | non =>
      refine ⟨rfl, ?_⟩
      rw [isNon_rp px]
      cases px <;> (cases h; exact q)
    | _ => cases px <;> (cases h; done)
theorem flat_rp {K : PySem.W.Frag} {B : Hp} {v : V} {x : D} (h : Rp K B v x) : flatV v = flatD x := by cases h <;> rfl
theorem flat_all {K : PySem.W.Frag} {B : Hp} : ∀ {vs : List V} {xs : List D}, RpA K B vs xs → vs.all flatV = xs.all flatD
  | _, _, .nil => rfl
  | _, _, .cons h r => by rw [List.all_cons, List.all_cons, flat_rp h, flat_all r]
theorem eqv_rp {K : PySem.W.Frag} {B : Hp} {v u : V} {x y : D} (h : Rp K B v x) (g : Rp K B u y) (fx : flatD x = true) (fy : flatD y = true) : eqV v u = PyData.eqv x y := by
  cases h <;> cases g <;> first | rfl | (exact nomatch fx) | (exact nomatch fy)
theorem mem_rp {K : PySem.W.Frag} {B : Hp} {u : V} {x : D} (h : Rp K B u x) (fx : flatD x = true) : ∀ {vs : List V} {ys : List D}, RpA K B vs ys → ys.all flatD = true → inV u vs = memD x ys
  | _, _, .nil, _ => rfl
  | _, _, .cons g r, f => by
    rw [List.all_cons, Bool.and_eq_true] at f
    have ih := mem_rp h fx r f.2
    unfold inV memD at ih ⊢
    rw [List.any_cons, List.any_cons, eqv_rp g h f.1 fx, ih]
def rInD (neg : Bool) (K : PySem.W.Frag) : R2 := fun x y H Q => (rIn K neg x y H Q ∨ ∃ (c : Nat) (z : Str), x = .str ⟨#[c]⟩ ∧ y = .str z ∧ Q (.bl (if neg then !decide (c ∈ z.cps.toList) else decide (c ∈ z.cps.toList))) H) ∨
  ∃ d ds, Dp K H x d ∧ Dp K H y (.list ds) ∧ SeqAt.shaped d = true ∧ SeqAt.shaped (.list ds) = true ∧ Q (.bl (if neg then !(ds.any fun z => PyData.eqv z d) else ds.any fun z => PyData.eqv z d)) H
theorem str_one {s : Str} (h : s.length = 1) : s = ⟨#[s.cps.getD 0 0]⟩ := by
  obtain ⟨⟨l⟩⟩ := s
  match l, h with
  | [c], _ => rfl
theorem in_rd {neg : Bool} {K : PySem.W.Frag} {σ : L2.St} {p : Pa} {st : Pl} {B M F : Hp} {env : List Sl} {x y : D} {z : Bool} {v u : V} {H : Hp} (r : Rel K p st B M F env σ H) (px : Rp K B v x) (py : Rp K B u y) (h : inD x y = some z) (Q : VK)
    (q : Q (.bl (if neg then !z else z)) H) : rInD neg K v u H Q := by
  cases py with
  | @lst a xs ys hy ry =>
    have h : (if flatD x = true ∧ ys.all flatD = true then some (memD x ys) else if SeqAt.shaped x = true ∧ SeqAt.shaped (.list ys) = true then some (memD x ys) else none) = some z := h
    by_cases hl : flatD x = true ∧ ys.all flatD = true
    case neg =>
      rw [if_neg hl] at h
      obtain ⟨⟨s1, s2⟩, rfl⟩ := ite_some h
      exact .inr ⟨x, ys, Rp.dp r.bs.b (noObj_shaped s1) px, Rp.dp r.bs.b (noObj_shaped s2) (.lst hy ry), s1, s2, q⟩
    rw [if_pos hl] at h
    cases h
    refine .inl <| .inl ⟨a, xs, rfl, .inl (Or.inl (Or.inl (r.bs.b _ _ hy))), by rw [flat_rp px]; exact hl.1, by rw [flat_all ry]; exact hl.2, ?_⟩
    rw [mem_rp px hl.1 ry hl.2]
    exact q
  | @tup a xs ys hy ry =>
    obtain ⟨hl, rfl⟩ := ite_some (show (if flatD x = true ∧ ys.all flatD = true then some (memD x ys) else none) = some z from h)
    refine .inl <| .inl ⟨a, xs, rfl, .inr (sqt_mono r.bs.b hy), by rw [flat_rp px]; exact hl.1, by rw [flat_all ry]; exact hl.2, ?_⟩
    rw [mem_rp px hl.1 ry hl.2]
    exact q
  | str t =>
    cases px with
    | str s =>
      obtain ⟨hl, rfl⟩ := ite_some (show (if s.length = 1 then some (decide (s.cps.getD 0 0 ∈ t.cps.toList)) else none) = some z from h)
      exact .inl <| .inr ⟨_, t, congrArg V.str (str_one hl), rfl, q⟩
    | _ => cases h
  | _ => cases h
def cNotIn : CmpOk .NotIn .notin where
  r := rInD true
  ok := fun X hu => OpR.or (OpR.or op_notIn_seq op_notIn_sign) (op_notInD (by omega))
  rd := fun {K σ p st B M F env x y z v u H} r px py h Q q => by
    obtain ⟨w, hw, rfl⟩ := Option.map_eq_some_iff.mp (show (inD x y).map (!·) = some z from h)
    exact in_rd (neg := true) r px py hw Q q
end
end Ip

set_option Elab.async false
set_option linter.all false
set_option maxRecDepth 100000
set_option maxHeartbeats 4000000
namespace Ip
open PySem L2
section
variable {Γ : Gam} {e a b c : Expr} {es rest : List Expr} {ia ib ic i : IE} {ies : IEs} {pos : Pos}
theorem ev_and {cl : Cl} {env : List Sl} {st : Pl} {d : D × Pl} (h : ev cl (.and ia ib) env st = some d) : (∃ st1, ev cl ia env st = some (.bool true, st1) ∧ ev cl ib env st1 = some d) ∨ (∃ st1, ev cl ia env st = some (.bool false, st1) ∧ d = (.bool false, st1)) := by
  unfold ev at h
  split at h
  · rename_i st1 e1
    exact .inl ⟨st1, e1, h⟩
  · rename_i st1 e1
    exact .inr ⟨st1, e1, (Option.some.inj h).symm⟩
  · cases h
theorem ev_or {cl : Cl} {env : List Sl} {st : Pl} {d : D × Pl} (h : ev cl (.or ia ib) env st = some d) : (∃ st1, ev cl ia env st = some (.bool false, st1) ∧ ev cl ib env st1 = some d) ∨ (∃ st1, ev cl ia env st = some (.bool true, st1) ∧ d = (.bool true, st1)) := by
  unfold ev at h
  split at h
  · rename_i st1 e1
    exact .inr ⟨st1, e1, (Option.some.inj h).symm⟩
  · rename_i st1 e1
    exact .inl ⟨st1, e1, h⟩
  · cases h
theorem ev_not {cl : Cl} {env : List Sl} {st : Pl} {d : D × Pl} (h : ev cl (.not ia) env st = some d) : ∃ b st1, ev cl ia env st = some (.bool b, st1) ∧ d = (.bool (!b), st1) := by
  unfold ev at h
  split at h
  · rename_i b st1 e1
    exact ⟨b, st1, e1, (Option.some.inj h).symm⟩
  · cases h
theorem st_se (h : SE Γ e i) (he : ∀ env whole, isTrue e env whole = (do let v ← whole; standAt e.pos; holding [v] (truthy v)) := by intro _ _; rfl) : ST Γ e i := fun X p o =>
  PT_weak (pt_val (h X p o) (fun w => he X.env w)) fun σ H Q q => by
    obtain ⟨st, B, M, F, env, b, st', r, he, k⟩ := q
    refine ⟨st, B, M, F, env, _, st', r, he, fun v B' H' x r' pv => ?_⟩
    cases pv
    exact ⟨b, rfl, k B' H' x r'⟩
theorem se_one {op : BoolOp} (h : SE Γ a i) : SE Γ (.BoolOp op [a] pos) i := fun X p o => pe_one (h X p o)
theorem se_and (ha : SE Γ a ia) (hb : SE Γ (.BoolOp .And (b :: rest) pos) ib) : SE Γ (.BoolOp .And (a :: b :: rest) pos) (.and ia ib) := fun X p o => PE_weak (pe_and (ha X p o) (hb X p o)) fun σ H Q q => by
  obtain ⟨st, B, M, F, env, d, st', r, he, k⟩ := q
  rcases ev_and he with ⟨st1, e1, e2⟩ | ⟨st1, e1, e2⟩
  · refine ⟨st, B, M, F, env, _, st1, r, e1, fun v B1 H1 x1 r1 p1 => ?_⟩
    cases p1
    refine ⟨true, rfl, iteT ⟨st1, B1, M, F, env, d, st', r1, e2, fun v B' H' x2 r2 p2 => k v B' H' (x1.trans x2) r2 p2⟩⟩
  · cases e2
    refine ⟨st, B, M, F, env, _, _, r, e1, fun v B1 H1 x1 r1 p1 => ?_⟩
    cases p1
    exact ⟨false, rfl, iteF (k _ B1 H1 x1 r1 (.bl _))⟩
theorem se_not (ha : SE Γ a ia) : SE Γ (.UnaryOp .Not a pos) (.not ia) := fun X p o => PE_weak (pe_not (ha X p o)) fun σ H Q q => by
  obtain ⟨st, B, M, F, env, d, st', r, he, k⟩ := q
  obtain ⟨b, st1, e1, e2⟩ := ev_not he
  cases e2
  refine ⟨st, B, M, F, env, _, _, r, e1, fun v B1 H1 x1 r1 p1 => ?_⟩
  cases p1
  exact ⟨b, rfl, k _ B1 H1 x1 r1 (.bl _)⟩
theorem se_neg (ha : SE Γ a ia) : SE Γ (.UnaryOp .USub a pos) (.neg ia) := fun X p o => PE_weak (pe_un un_neg (ha X p o)) fun σ H Q q => by
  obtain ⟨st, B, M, F, env, d, st', r, he, k⟩ := q
  unfold ev at he
  split at he
  · rename_i n st1 e1
    cases he
    refine ⟨st, B, M, F, env, _, _, r, e1, fun v B1 H1 x1 r1 p1 => ?_⟩
    cases p1
    exact ⟨n, rfl, k _ B1 H1 x1 r1 (.int _)⟩
  · cases he
theorem sw_and1 (h : ST Γ a i) : SW Γ (.BoolOp .And [a] pos) i := fun X p o => pw_and1 (h X p o)
theorem sw_or1 (h : ST Γ a i) : SW Γ (.BoolOp .Or [a] pos) i := fun X p o => pw_or1 (h X p o)
theorem sw_and (ha : ST Γ a ia) (hb : SW Γ (.BoolOp .And (b :: rest) pos) ib) : SW Γ (.BoolOp .And (a :: b :: rest) pos) (.and ia ib) := fun X p o => PW_weak (pw_and (ha X p o) (hb X p o)) fun σ H Q q => by
  obtain ⟨st, B, M, F, env, d, st', r, he, k⟩ := q
  rcases ev_and he with ⟨st1, e1, e2⟩ | ⟨st1, e1, e2⟩
  · exact ⟨st, B, M, F, env, true, st1, r, e1, fun B1 H1 x1 r1 => iteT ⟨st1, B1, M, F, env, d, st', r1, e2, fun B' H' x2 r2 => k B' H' (x1.trans x2) r2⟩⟩
  · cases e2
    exact ⟨st, B, M, F, env, false, _, r, e1, fun B1 H1 x1 r1 => iteF (k B1 H1 x1 r1)⟩
theorem sw_or (ha : ST Γ a ia) (hb : SW Γ (.BoolOp .Or (b :: rest) pos) ib) : SW Γ (.BoolOp .Or (a :: b :: rest) pos) (.or ia ib) := fun X p o => PW_weak (pw_or (ha X p o) (hb X p o)) fun σ H Q q => by
  obtain ⟨st, B, M, F, env, d, st', r, he, k⟩ := q
  rcases ev_or he with ⟨st1, e1, e2⟩ | ⟨st1, e1, e2⟩
  · exact ⟨st, B, M, F, env, false, st1, r, e1, fun B1 H1 x1 r1 => iteF ⟨st1, B1, M, F, env, d, st', r1, e2, fun B' H' x2 r2 => k B' H' (x1.trans x2) r2⟩⟩
  · cases e2
    exact ⟨st, B, M, F, env, true, _, r, e1, fun B1 H1 x1 r1 => iteT (k B1 H1 x1 r1)⟩
theorem st_sw (h : SW Γ e i) : ST Γ e i := fun X p o => (h X p o).pt
theorem st_not (ha : ST Γ a ia) : ST Γ (.UnaryOp .Not a pos) (.not ia) := fun X p o => PT_weak (pt_not (ha X p o)) fun σ H Q q => by
  obtain ⟨st, B, M, F, env, d, st', r, he, k⟩ := q
  obtain ⟨b, st1, e1, e2⟩ := ev_not he
  cases e2
  exact ⟨st, B, M, F, env, b, _, r, e1, fun B1 H1 x1 r1 => k B1 H1 x1 r1⟩
theorem se_ifx (hc : ST Γ c ic) (ha : SE Γ a ia) (hb : SE Γ b ib) : SE Γ (.IfExp c a b pos) (.ifx ic ia ib) := fun X p o => PE_weak (pe_ifExp (hc X p o) (ha X p o) (hb X p o)) fun σ H Q q => by
  obtain ⟨st, B, M, F, env, d, st', r, he, k⟩ := q
  unfold ev at he
  split at he
  · rename_i st1 e1
    exact ⟨st, B, M, F, env, true, st1, r, e1, fun B1 H1 x1 r1 => iteT ⟨st1, B1, M, F, env, d, st', r1, he, fun v B' H' x2 r2 p2 => k v B' H' (x1.trans x2) r2 p2⟩⟩
  · rename_i st1 e1
    exact ⟨st, B, M, F, env, false, st1, r, e1, fun B1 H1 x1 r1 => iteF ⟨st1, B1, M, F, env, d, st', r1, he, fun v B' H' x2 r2 p2 => k v B' H' (x1.trans x2) r2 p2⟩⟩
  · cases he
theorem sa_nil : SA Γ [] .nil := fun X p o => PA_weak pa_nil fun σ H Q q => by
  obtain ⟨st, B, M, F, env, ds, st', r, he, k⟩ := q
  unfold ea at he
  cases he
  exact k [] B H (Ex.refl B) r .nil
theorem sa_cons (he : SE Γ e i) (hr : SA Γ es ies) (hs : ∀ env, starEach (e :: es) env = (false, eval e env) :: starEach es env := by intro _; rfl) : SA Γ (e :: es) (.cons i ies) := fun X p o => PA_weak (pa_cons (he X p o) (hr X p o) (hs _)) fun σ H Q q => by
  obtain ⟨st, B, M, F, env, ds, st', r, he, k⟩ := q
  unfold ea at he
  cases e1 : ev Γ.cl i env st with
  | none =>
    rw [e1] at he
    cases he
  | some xs =>
    obtain ⟨x, st1⟩ := xs
    rw [e1] at he
    cases e2 : ea Γ.cl ies env st1 with
    | none =>
      simp only [e2] at he
      cases he
    | some ys =>
      obtain ⟨ys, st2⟩ := ys
      simp only [e2] at he
      cases he
      exact ⟨st, B, M, F, env, x, st1, r, e1, fun v B1 H1 x1 r1 p1 => ⟨st1, B1, M, F, env, ys, _, r1, e2, fun vs B2 H2 x2 r2 p2 => k _ B2 H2 (x1.trans x2) r2 (.cons (p1.mono x2) p2)⟩⟩
theorem sg_nil : SG Γ [] .nil := fun X p o => PA_weak pa_nil fun σ H Q q => by
  obtain ⟨st, B, M, F, env, ds, st', r, he, k⟩ := q
  unfold ag at he
  cases he
  exact k [] B H (Ex.refl B) r .nil
theorem sg_cons (he : SE Γ e i) (hr : SG Γ es ies) (hs : ∀ env, starEach (e :: es) env = (false, eval e env) :: starEach es env := by intro _; rfl) : SG Γ (e :: es) (.cons i ies) := fun X p o => PA_weak (pa_cons (he X p o) (hr X p o) (hs _)) fun σ H Q q => by
  obtain ⟨st, B, M, F, env, ds, st', r, he, k⟩ := q
  unfold ag at he
  cases e1 : ev Γ.cl i env st with
  | none =>
    rw [e1] at he
    cases he
  | some xs =>
    obtain ⟨x, st1⟩ := xs
    rw [e1] at he
    cases e2 : ag Γ.cl ies env st1 with
    | none =>
      simp only [e2] at he
      cases he
    | some ys =>
      obtain ⟨ys, st2⟩ := ys
      simp only [e2] at he
      cases he
      exact ⟨st, B, M, F, env, x, st1, r, e1, fun v B1 H1 x1 r1 p1 => ⟨st1, B1, M, F, env, ys, _, r1, e2, fun vs B2 H2 x2 r2 p2 => k _ B2 H2 (x1.trans x2) r2 (.cons (p1.mono x2) p2)⟩⟩
theorem sg_pool (n : Nat) {x : Str} (hr : SG Γ es ies) (hN : Γ.N[n]? = some x := by rfl) (hv : Vis Γ.sc x := by first | exact Or.inl rfl | exact Or.inr (Or.inl rfl) | exact Or.inr (Or.inr rfl)) (hd : (x == ("__debug__" : Str)) = false := by decide) (hcd : (x == ("__classdict__" : Str)) = false := by decide)
    (hs : ∀ env, starEach (.Name x pos :: es) env = (false, eval (.Name x pos) env) :: starEach es env := by intro _; rfl) : SG Γ (.Name x pos :: es) (.pool n ies) := fun X p o =>
  PA_weak (pa_cons (pe_var (i := n) (by rw [o.N]; exact hN) (by rw [o.sc]; exact hv) hd hcd) (hr X p o) (hs _)) fun σ H Q q => by
  obtain ⟨st, B, M, F, env, ds, st', r, he, k⟩ := q
  unfold ag at he
  split at he
  · rename_i e1
    cases e2 : ag Γ.cl ies env st with
    | none =>
      simp only [e2] at he
      cases he
    | some ys =>
      obtain ⟨ys, st2⟩ := ys
      simp only [e2] at he
      cases he
      obtain ⟨ov, h1, h2⟩ := r.en.at_ n _ e1
      cases ov with
      | none => exact h2.elim
      | some v =>
        cases v with
        | ref q =>
          obtain rfl : q = p := h2
          exact ⟨_, h1, st, B, M, F, env, ys, _, r, e2, fun vs B2 H2 x2 r2 p2 => k _ B2 H2 x2 r2 (.pool p2)⟩
        | _ => exact h2.elim
  · cases he
theorem tup_se (h : SA Γ es ies) {x1} : SE Γ (.Tuple es x1 pos) (.tup ies) := fun X p o => PE_weak (pe_tup (h X p o)) fun σ H Q q => by
  obtain ⟨st, B, M, F, env, d, st', r, he, k⟩ := q
  unfold ev at he
  cases e1 : ea Γ.cl ies env st with
  | none =>
    rw [e1] at he
    cases he
  | some ys =>
    obtain ⟨ys, st1⟩ := ys
    rw [e1] at he
    obtain ⟨hl, he⟩ := ite_some he
    cases he
    refine ⟨st, B, M, F, env, ys, _, r, e1, fun vs B1 H1 x1 r1 p1 => ⟨most_line (by rw [p1.length]; exact hl), fun q hq => ?_⟩⟩
    exact k (.ref q) _ _ (x1.trans (Ex.new (r1.bs.b.free hq))) (r1.new hq) (.tup (Or.inl (Or.inl upd_same)) (p1.mono (Ex.new (r1.bs.b.free hq))))
theorem ev_lst {cl : Cl} {env : List Sl} {st : Pl} {d : D} {st' : Pl} (he : ev cl (.lst ies) env st = some (d, st')) : ∃ ys, ea cl ies env st = some (ys, st') ∧ ys.length ≤ most ∧ d = .list ys := by
  unfold ev at he
  cases e1 : ea cl ies env st with
  | none =>
    rw [e1] at he
    cases he
  | some ys =>
    obtain ⟨ys, st1⟩ := ys
    rw [e1] at he
    obtain ⟨hl, he⟩ := ite_some he
    cases he
    exact ⟨ys, rfl, hl, rfl⟩
theorem Rel.freshM {K : PySem.W.Frag} {p : Pa} {st : Pl} {B M F : Hp} {env : List Sl} {σ : L2.St} {H : Hp} (r : Rel K p st B M F env σ H) {q : Addr} (h : H q = none) : B q = none ∧ M q = none ∧ F q = none ∧ NotP p q := ⟨r.bs.b.free h, r.m.free h, r.bs.f.free h, r.bs.pn h, fun k hk => r.bs.ce.ne h hk rfl, fun t ht => r.bs.ce.tne ht (.inl h)⟩
/-- the heap grows by something that nobody speaks of -/
theorem Rel.more {K : PySem.W.Frag} {p : Pa} {st : Pl} {B M F : Hp} {env : List Sl} {σ : L2.St} {H : Hp} (r : Rel K p st B M F env σ H) {q : Addr} {o : HO} (h : H q = none) : Rel K p st B M F env σ (upd H q o) where
  bs := {
    b := r.bs.b.right (r.bs.b.free h)
    f := r.bs.f.right (r.bs.f.free h)
    d := r.bs.d
    pf := r.bs.pf
    pb := r.bs.pb
    pl := by
      obtain ⟨h1, h2⟩ := r.bs.pl
      exact ⟨by rw [upd_ne (fun e => r.bs.pn h e.symm)]; exact h1, h2⟩
    ce := r.bs.ce.up (fun k a hk => ⟨(r.bs.ce.b k a hk).1, (r.bs.ce.b k a hk).2.1⟩) (fun k a hk => by rw [upd_ne (r.bs.ce.ne h hk)]) r.bs.ce.tn fun z => tabs_new z h }
  m := r.m.right (r.m.free h)
  md := r.md
  mc := r.mc
  mt := r.mt
  en := r.en
theorem lst_sf (h : SA Γ es ies) : SF Γ (.List es pos) (.lst ies) := fun X p o => PE_weak (pe_lst (h X p o)) fun σ H Q q => by
  obtain ⟨st, B, M, F, env, ds, st', r, he, k⟩ := q
  obtain ⟨ys, e1, hl, e2⟩ := ev_lst he
  cases e2
  refine ⟨st, B, M, F, env, ds, _, r, e1, fun vs B1 H1 x1 r1 p1 => ⟨most_line (by rw [p1.length]; exact hl), fun q hq => ?_⟩⟩
  obtain ⟨h1, h2, h3, h4⟩ := r1.freshM hq
  exact k q vs B1 _ x1 h1 h2 h3 h4 upd_same p1 (r1.more hq)
theorem lst_se (h : SA Γ es ies) : SE Γ (.List es pos) (.lst ies) := (lst_sf h).se fun _ _ _ _ _ he => by
  obtain ⟨ys, _, _, e⟩ := ev_lst he
  exact ⟨ys, e⟩
theorem RpA.atI {K : PySem.W.Frag} {B : Hp} {vs : List V} {ds : List D} {n : Int} {d : D} (r : RpA K B vs ds) (h : atI ds n = some d) : ∃ v, atI vs n = some v ∧ Rp K B v d := by
  unfold L2.atI at h ⊢
  obtain ⟨j, h1, h2⟩ := Option.bind_eq_some_iff.mp h
  rw [r.length, h1]
  exact r.get h2
theorem ix_se (ha : SE Γ a ia) (hb : SE Γ b ib) (hs : PlainIx b := by intro _ _; rfl) : SE Γ (.Subscript a b pos) (.ix ia ib) := fun X p o => PE_weak (pe_ix (IxR.or ix_list (IxR.or ix_tup ix_str)) (ha X p o) (hb X p o) hs) fun σ H Q q => by
  rw [o.K]
  refine tx_bin (f := ixD) (fun env st => rfl) ?_ q
  intro st B M F env x y z v u H r px py h Q k
  cases py with
  | int n =>
    cases px with
    | @lst a xs ds hx rx =>
      obtain ⟨v, h1, h2⟩ := rx.atI h
      exact .inl ⟨a, xs, n, v, rfl, rfl, Or.inl (Or.inl (r.bs.b _ _ hx)), h1, k v B H (Ex.refl B) r h2⟩
    | @tup a xs ds hx rx =>
      obtain ⟨v, h1, h2⟩ := rx.atI h
      exact .inr (.inl ⟨a, xs, n, v, rfl, rfl, sqt_mono r.bs.b hx, h1, k v B H (Ex.refl B) r h2⟩)
    | str s =>
      have h' : (if s.length ≤ most then (atI s.cps.toList n).map fun c => PyData.str ⟨#[c]⟩ else none) = some z := h
      by_cases hl : s.length ≤ most
      · rw [if_pos hl] at h'
        obtain ⟨c, h1, rfl⟩ := Option.map_eq_some_iff.mp h'
        exact .inr (.inr ⟨s, n, c, rfl, rfl, most_line hl, h1, k _ B H (Ex.refl B) r (.str _)⟩)
      · rw [if_neg hl] at h'
        cases h'
    | _ => cases h
  | _ => cases px <;> (cases h; done)
end
end Ip

set_option Elab.async false
set_option linter.all false
set_option maxRecDepth 100000
set_option maxHeartbeats 4000000
namespace Ip
open PySem PySem.Spec PyProof.Rows L2
open AutoSeq1 (wpAny_loadPart')
/-- a list (true) or a tuple (false) -/
def SqB (K : PySem.W.Frag) (b : Bool) (H : Hp) (a : Addr) (xs : List V) : Prop := (b = true ∧ SqL K H a xs) ∨ (b = false ∧ SqT K H a xs)
def Ien (K : PySem.W.Frag) (b : Bool) (a : Addr) : It :=
  ⟨fun i H => ∃ (xs : List V) (x : V), SqB K b H a xs ∧ xs[i]? = some x,
   fun i H v H' => ∃ T x, v = .ref T ∧ H T = none ∧ H' = upd H T (.tup [.int (i : Nat), x]) ∧ ∀ xs, SqB K b H a xs → xs[i]? = some x,
   fun i H => ∃ xs : List V, SqB K b H a xs ∧ xs.length = i⟩
def iEn (K : PySem.W.Frag) (ta : TA) : TI := fun σ H R => ta σ H fun vs H1 => ∃ b a xs, vs = [.ref a] ∧ SqB K b H1 a xs ∧ R (Ien K b a) H1
def IenS (x : Str) : It :=
  ⟨fun i _ => i < x.cps.size,
   fun i H v H' => ∃ T c, v = .ref T ∧ H T = none ∧ H' = upd H T (.tup [.int (i : Nat), .str ⟨#[c]⟩]) ∧ x.cps[i]? = some c,
   fun i _ => i = x.cps.size⟩
def iEnS (ta : TA) : TI := fun σ H R => ta σ H fun vs H1 => ∃ x, vs = [.str x] ∧ R (IenS x) H1
def Izp (K : PySem.W.Frag) (b c : Bool) (a d : Addr) : It :=
  ⟨fun i H => ∃ (xs ys : List V) (x y : V), SqB K b H a xs ∧ SqB K c H d ys ∧ xs[i]? = some x ∧ ys[i]? = some y,
   fun i H v H' => ∃ T x y, v = .ref T ∧ H T = none ∧ H' = upd H T (.tup [x, y]) ∧ (∀ xs, SqB K b H a xs → xs[i]? = some x) ∧ (∀ ys, SqB K c H d ys → ys[i]? = some y),
   fun i H => ∃ xs ys : List V, SqB K b H a xs ∧ SqB K c H d ys ∧ min xs.length ys.length = i⟩
def iZp (K : PySem.W.Frag) (ta : TA) : TI := fun σ H R => ta σ H fun vs H1 => ∃ b c a d xs ys, vs = [.ref a, .ref d] ∧ SqB K b H1 a xs ∧ SqB K c H1 d ys ∧ R (Izp K b c a d) H1
end Ip

set_option Elab.async false
set_option linter.all false
set_option maxRecDepth 100000
set_option maxHeartbeats 4000000
namespace Ip
open PySem L2
section
variable {Γ : Gam} {e a b c : Expr} {es rest : List Expr} {ia ib ic i : IE} {ies : IEs} {pos p0 : Pos} {x : Str}
theorem tx_call {K : PySem.W.Frag} {cl : Cl} {σ : L2.St} {H : Hp} {Q : VK} (ht : p.tb = tabK K) (q : Tx K cl p (.call x ies) σ H Q) : tCall (spF K cl x) [] E0 (Tg K cl p ies) σ H Q := by
  obtain ⟨st, B, M, F, env, d, st', r, he, k⟩ := q
  unfold ev at he
  cases e1 : ag cl ies env st with
  | none =>
    rw [e1] at he
    cases he
  | some ys =>
    obtain ⟨ys, st1⟩ := ys
    rw [e1] at he
    refine ⟨st, B, M, F, env, ys, st1, r, e1, fun vs B1 H1 x1 r1 p1 => ?_⟩
    show spF K cl x (vs ++ []) H1 Q E0
    rw [List.append_nil]
    exact ⟨p.o, st1, B1, uni M F, ys, d, st', ⟨rfl, rfl, rfl, ht⟩, r1.call.o, p1.o, he, fun v B' H' x2 w pv => k v B' H' (x1.trans x2) (r1.back x2 w.u) pv⟩
theorem call_se (h : SG Γ (e :: es) ies) (hh : Γ.hot = false := by rfl) (hf : Γ.fs.contains x = true := by rfl) (hg : GlS Γ.sc x := by rfl) (hdb : (x == ("__debug__" : Str)) = false := by decide)
    (he : ∀ env, starEach (e :: es) env = (false, eval e env) :: starEach es env := by intro _; rfl) (hpl : ∀ env, (backTo pos (starEach es env)).any (·.1) = false := by intro _; rfl) :
    SE Γ (.Call (.Name x p0) (e :: es) [] pos) (.call x ies) := fun X p o => by
  obtain ⟨fa, fd, ps, k, F, hm, hk, hb, hr⟩ := o.fn hh x (List.contains_iff_mem.mp hf)
  exact PE_weak (pe_call F hr (o.gl hg) hm hk hb .nil passN (h X p o) hdb (he _) (hpl _)) fun σ H Q q => tx_call o.tb q
theorem CallR_or {X : Cx} {f : Value} {r1 r2 : List V → Hp → VK → Prop} (h1 : CallR X f r1) (h2 : CallR X f r2) : CallR X f (fun vs H Q => r1 vs H Q ∨ r2 vs H Q) := fun pins s σ H vs us Q I r q => by
  rcases q with q | q
  · exact h1 pins s σ H vs us Q I r q
  · exact h2 pins s σ H vs us Q I r q
theorem tx_bi {K : PySem.W.Frag} {cl : Cl} {f : Bi} {r : List V → Hp → VK → Prop} {σ : L2.St} {H : Hp} {Q : VK}
    (hr : ∀ {st B M F env v d z H}, Rel K p st B M F env σ H → Rp K B v d → biD f [d] = some z → ∀ Q : VK, (∀ w B' H', Ex B B' → Rel K p st B' M F env σ H' → Rp K B' w z → Q w H') → r [v] H Q)
    (q : Tx K cl p (.bi f (.cons i .nil)) σ H Q) : tCB r (Ta K cl p (.cons i .nil)) σ H Q := by
  obtain ⟨st, B, M, F, env, d, st', rl, he, k⟩ := q
  unfold ev at he
  cases e1 : ea cl (.cons i .nil) env st with
  | none =>
    rw [e1] at he
    cases he
  | some ys =>
    obtain ⟨ys, st1⟩ := ys
    rw [e1] at he
    obtain ⟨z, e2, e3⟩ := Option.map_eq_some_iff.mp he
    cases e3
    refine ⟨st, B, M, F, env, ys, _, rl, e1, fun vs B1 H1 x1 r1 p1 => ?_⟩
    have hl : ys.length = 1 := by
      unfold ea at e1
      split at e1
      · unfold ea at e1
        cases e1
        rfl
      · cases e1
    match ys, hl, p1, e2 with
    | [y], _, .cons py .nil, e2 => exact hr r1 py e2 Q fun w B' H' x2 r2 p2 => k w B' H' (x1.trans x2) r2 p2
theorem len_se (h : SE Γ e i) (hb : Γ.bs.contains "len" = true := by rfl) (hg : GlS Γ.sc "len" := by rfl) (hs : ∀ env, starEach [e] env = (false, eval e env) :: starEach [] env := by intro _; rfl) :
    SE Γ (.Call (.Name "len" p0) [e] [] pos) (.bi .len (.cons i .nil)) := fun X p o =>
  PE_weak (pe_callB call_len (o.gl hg) (o.bl _ (List.contains_iff_mem.mp hb)) PySem.boot_len ((sa_cons h sa_nil hs) X p o) (by decide) (by decide) (hs _) rfl) fun σ H Q q => by
    refine tx_bi ?_ q
    intro st B M F env v d z H r pv e2 Q k
    rw [o.K]
    cases pv with
    | @lst a xs ds hx rx =>
      cases e2
      exact ⟨_, xs.length, rfl, .inl ⟨xs, Or.inl (Or.inl (r.bs.b _ _ hx)), rfl⟩, k _ B H (Ex.refl B) r (by rw [rx.length]; exact .int _)⟩
    | @tup a xs ds hx rx =>
      cases e2
      exact ⟨_, xs.length, rfl, .inr ⟨xs, sqt_mono r.bs.b hx, rfl⟩, k _ B H (Ex.refl B) r (by rw [rx.length]; exact .int _)⟩
    | str s =>
      obtain ⟨hl, rfl⟩ := ite_some (show (if s.length ≤ most then some (PyData.int s.length) else none) = some z from e2)
      exact ⟨_, s.length, rfl, ⟨most_line hl, rfl⟩, k _ B H (Ex.refl B) r (.int _)⟩
    | _ => cases e2
theorem int_se (h : SE Γ e i) (hb : Γ.bs.contains "int" = true := by rfl) (hg : GlS Γ.sc "int" := by rfl) (hs : ∀ env, starEach [e] env = (false, eval e env) :: starEach [] env := by intro _; rfl) :
    SE Γ (.Call (.Name "int" p0) [e] [] pos) (.bi .int (.cons i .nil)) := fun X p o =>
  PE_weak (pe_callTy (CallR_or call_int1 call_int_str) (o.gl hg) (o.bl _ (List.contains_iff_mem.mp hb)) (by decide +kernel) ((sa_cons h sa_nil hs) X p o) (by decide) (by decide) (hs _) rfl) fun σ H Q q => by
    refine tx_bi ?_ q
    intro st B M F env v d z H r pv e2 Q k
    cases pv with
    | int n =>
      cases e2
      exact .inl (.inl ⟨n, rfl, k _ B H (Ex.refl B) r (.int _)⟩)
    | bl w =>
      cases e2
      exact .inl (.inr ⟨w, rfl, k _ B H (Ex.refl B) r (.int _)⟩)
    | str z =>
      have e3 : (match PySem.intText? z with
        | some n => if z.length ≤ 640 then some (PyData.int n) else none
        | none => none) = some _ := e2
      split at e3
      · rename_i n hn
        obtain ⟨hl, rfl⟩ := ite_some e3
        exact .inr ⟨z, n, rfl, hn, hl, k _ B H (Ex.refl B) r (.int _)⟩
      · cases e3
    | _ => cases e2
theorem tuple_se (h : SE Γ e i) (hb : Γ.bs.contains "tuple" = true := by rfl) (hg : GlS Γ.sc "tuple" := by rfl) (hs : ∀ env, starEach [e] env = (false, eval e env) :: starEach [] env := by intro _; rfl) :
    SE Γ (.Call (.Name "tuple" p0) [e] [] pos) (.bi .tuple (.cons i .nil)) := fun X p o =>
  PE_weak (pe_callTy call_tuple_of (o.gl hg) (o.bl _ (List.contains_iff_mem.mp hb)) (by decide +kernel) ((sa_cons h sa_nil hs) X p o) (by decide) (by decide) (hs _) rfl) fun σ H Q q => by
    refine tx_bi ?_ q
    intro st B M F env v d z H r pv e2 Q k
    rw [o.K]
    cases pv with
    | @lst a xs ds hx rx =>
      cases e2
      exact ⟨a, xs, rfl, .inl ⟨Or.inl (Or.inl (r.bs.b _ _ hx)), fun l hl => k (.ref l) _ _ (Ex.new (r.bs.b.free hl)) (r.new hl) (.tup (Or.inl (Or.inl upd_same)) (rx.mono (Ex.new (r.bs.b.free hl))))⟩⟩
    | @tup a xs ds hx rx =>
      cases e2
      exact ⟨a, xs, rfl, .inr ⟨sqt_mono r.bs.b hx, k _ B H (Ex.refl B) r (.tup hx rx)⟩⟩
    | _ => cases e2
theorem len_rd {K : PySem.W.Frag} {p : Pa} {st : Pl} {B M F : Hp} {env : List Sl} {σ : L2.St} {H : Hp} {v : V} {d z : D} (r : Rel K p st B M F env σ H) (pv : Rp K B v d) (e2 : biD .len [d] = some z) : ∃ n : Nat, LenV K v H n ∧ z = .int n := by
  cases pv with
  | @lst a xs ds hx rx =>
    cases e2
    exact ⟨xs.length, .inl ⟨xs, Or.inl (Or.inl (r.bs.b _ _ hx)), rfl⟩, by rw [rx.length]⟩
  | @tup a xs ds hx rx =>
    cases e2
    exact ⟨xs.length, .inr ⟨xs, sqt_mono r.bs.b hx, rfl⟩, by rw [rx.length]⟩
  | str s =>
    obtain ⟨hl, rfl⟩ := ite_some (show (if s.length ≤ most then some (PyData.int s.length) else none) = some z from e2)
    exact ⟨s.length, ⟨most_line hl, rfl⟩, rfl⟩
  | _ => cases e2
theorem olen_se (n : Nat) {y : Str} {p1 : Pos} (hN : Γ.N[n]? = some y := by rfl) (hv : Vis Γ.sc y := by first | exact Or.inl rfl | exact Or.inr (Or.inl rfl) | exact Or.inr (Or.inr rfl)) (hd : (y == ("__debug__" : Str)) = false := by decide) (hcd : (y == ("__classdict__" : Str)) = false := by decide)
    (hb : Γ.bs.contains "len" = true := by rfl) (hg : GlS Γ.sc "len" := by rfl) (hs : ∀ env, starEach [.Name y p0] env = (false, eval (.Name y p0) env) :: starEach [] env := by intro _; rfl) :
    SE Γ (.Call (.Name "len" p1) [.Name y p0] [] pos) (.olen n) := fun X p o =>
  PE_weak (pe_callB call_len (o.gl hg) (o.bl _ (List.contains_iff_mem.mp hb)) PySem.boot_len (pa_cons (pe_var (i := n) (by rw [o.N]; exact hN) (by rw [o.sc]; exact hv) hd hcd) pa_nil (hs _)) (by decide) (by decide) (hs _) rfl) fun σ H Q q => by
    obtain ⟨st, B, M, F, env, d, st', r, he, k⟩ := q
    unfold ev at he
    split at he
    · rename_i ds e1
      cases he
      obtain ⟨ov, h1, h2⟩ := r.en.at_ n _ e1
      cases ov with
      | none => exact h2.elim
      | some v =>
        cases v with
        | ref a =>
          obtain ⟨xs, h3, h4⟩ := h2
          exact ⟨_, h1, _, xs.length, rfl, .inl ⟨xs, Or.inl (Or.inl (r.m _ _ h3)), rfl⟩, k _ B H (Ex.refl B) r (by rw [h4.length]; exact .int _)⟩
        | _ => exact h2.elim
    · rename_i d1 e1
      obtain ⟨z, e2, e3⟩ := Option.map_eq_some_iff.mp he
      cases e3
      obtain ⟨ov, h1, h2⟩ := r.en.at_ n _ e1
      cases ov with
      | none => exact h2.elim
      | some v =>
        obtain ⟨m, h3, rfl⟩ := len_rd r h2 e2
        rw [o.K]
        exact ⟨v, h1, v, m, rfl, h3, k _ B H (Ex.refl B) r (.int _)⟩
    · cases he
end
theorem PI_or {X : Cx} {tg iter : Expr} {w1 w2 : TI} (h1 : PI X tg iter w1) (h2 : PI X tg iter w2) : PI X tg iter (fun σ H R => w1 σ H R ∨ w2 σ H R) := ⟨fun pins s σ H R I q => by
  rcases q with q | q
  · exact h1.run pins s σ H R I q
  · exact h2.run pins s σ H R I q⟩
def Ti (K : PySem.W.Frag) (cl : Cl) (p : Pa) : IT → TI
  | .seq e => fun σ H R => (iList K (Tx K cl p e) σ H R ∨ iTup K (Tx K cl p e) σ H R) ∨ iStr (Tx K cl p e) σ H R
  | .rng1 e => iRng1 (Ta K cl p (.cons e .nil))
  | .rng2 a b => iRng2 (Ta K cl p (.cons a (.cons b .nil)))
  | .rng3 a b => iRng3 (Ta K cl p (.cons a (.cons b (.cons (.cst (.int (-1))) .nil))))
  | .enm e => fun σ H R => iEn K (Ta K cl p (.cons e .nil)) σ H R ∨ iEnS (Ta K cl p (.cons e .nil)) σ H R
  | .zp a b => iZp K (Ta K cl p (.cons a (.cons b .nil)))
  | .dkeys n => iKeys (Tx K cl p (.var n))
theorem ei_dkeys {cl : Cl} {n : Nat} {env : List Sl} {st st' : Pl} {ds : List D} (h : ei cl (.dkeys n) env st = some (ds, st')) : ∃ tab, ev cl (.var n) env st = some (dMk tab, st) ∧ ds = tab.map (·.1) ∧ st' = st := by
  unfold ei at h
  split at h
  · rename_i tab e1
    cases h
    exact ⟨tab, by unfold ev; rw [e1]; rfl, rfl, rfl⟩
  · cases h
theorem RpK.len {K : PySem.W.Frag} {B : Hp} : ∀ {kvs : List (L2.Key × V)} {tab : List (D × D)}, RpK K B kvs tab → kvs.length = tab.length
  | _, _, .nil => rfl
  | _, _, .cons _ r => congrArg Nat.succ (RpK.len r)
theorem kV_rp {K : PySem.W.Frag} {B : Hp} (k : L2.Key) : Rp K B (kV k) (keyD k) := by
  cases k with
  | inl i => exact .int i
  | inr x => exact .str x
theorem RpK.key {K : PySem.W.Frag} {B : Hp} : ∀ {kvs : List (L2.Key × V)} {tab : List (D × D)} {i : Nat} {k : L2.Key} {v : V}, RpK K B kvs tab → kvs[i]? = some (k, v) → (tab.map (·.1))[i]? = some (keyD k)
  | _, _, _, _, _, .nil, e => by simp at e
  | _, _, 0, _, _, .cons h _, e => by
    simp at e
    obtain ⟨rfl, rfl⟩ := e
    rfl
  | _, _, i + 1, _, _, .cons _ r, e => by
    simp at e
    exact RpK.key (i := i) r e
def SI (Γ : Gam) (e : Expr) (i : IT) : Prop := ∀ X p tg, Okx Γ X p → PI X tg e (Ti Γ.K Γ.cl p i)
/-- the same, for one target -/
def SIg (Γ : Gam) (tg e : Expr) (i : IT) : Prop := ∀ X p, Okx Γ X p → PI X tg e (Ti Γ.K Γ.cl p i)
theorem SI.g {Γ : Gam} {e tg : Expr} {i : IT} (h : SI Γ e i) : SIg Γ tg e i := fun X p o => h X p tg o
theorem walk_en {K : PySem.W.Frag} {b : Bool} {a : Addr} {xs : List V} : Walk (Ien K b a) xs.length (fun H => SqB K b H a xs) (YPair (fun i => some (.int (i : Nat))) (fun i => xs[i]?)) := by
  refine ⟨fun i _ hi q => ⟨xs, _, q, List.getElem?_eq_getElem hi⟩, fun _ q => ⟨xs, q, rfl⟩, fun i H v H' _ q y => ?_⟩
  obtain ⟨T, x, h1, h2, h3, h4⟩ := y
  exact ⟨T, .int (i : Nat), x, h1, h2, h3, rfl, h4 xs q⟩
theorem walk_zp {K : PySem.W.Frag} {b c : Bool} {a d : Addr} {xs ys : List V} : Walk (Izp K b c a d) (min xs.length ys.length) (fun H => SqB K b H a xs ∧ SqB K c H d ys) (YPair (fun i => xs[i]?) (fun i => ys[i]?)) := by
  refine ⟨fun i _ hi q => ⟨xs, ys, _, _, q.1, q.2, List.getElem?_eq_getElem (by omega), List.getElem?_eq_getElem (by omega)⟩, fun _ q => ⟨xs, ys, q.1, q.2, rfl⟩, fun i H v H' _ q y => ?_⟩
  obtain ⟨T, x, y, h1, h2, h3, h4, h5⟩ := y
  exact ⟨T, x, y, h1, h2, h3, h4 xs q.1, h5 ys q.2⟩
theorem walk_enS {x : Str} : Walk (IenS x) x.cps.size (fun _ => True) (fun i H v H' => ∃ T c, v = .ref T ∧ H T = none ∧ H' = upd H T (.tup [.int (i : Nat), .str ⟨#[c]⟩]) ∧ x.cps[i]? = some c) :=
  ⟨fun i _ hi _ => hi, fun _ _ => rfl, fun i H v H' _ _ y => y⟩
theorem enD_get : ∀ {ds : List D} {k i : Nat} {d : D}, ds[i]? = some d → (enD k ds)[i]? = some (.tuple [.int ((k + i : Nat) : Int), d])
  | [], k, i, d, h => by simp at h
  | e :: ds, k, 0, d, h => by
    simp at h
    subst h
    rfl
  | e :: ds, k, i + 1, d, h => by
    have h' : ds[i]? = some d := by simpa using h
    have q := enD_get (k := k + 1) h'
    show (enD (k + 1) ds)[i]? = _
    rw [q, show k + 1 + i = k + (i + 1) by omega]
theorem enD_len : ∀ (k : Nat) (ds : List D), (enD k ds).length = ds.length
  | _, [] => rfl
  | k, _ :: ds => congrArg Nat.succ (enD_len (k + 1) ds)
theorem zpD_get {ds es : List D} {i : Nat} {d e : D} (h : ds[i]? = some d) (g : es[i]? = some e) : (zpD ds es)[i]? = some (.tuple [d, e]) := by
  unfold zpD
  rw [List.getElem?_zipWith, h, g]
theorem rngN_get {lo hi : Int} {ds : List D} (h : rngN lo hi = some ds) : (-(2 ^ 62) ≤ lo ∧ lo < 2 ^ 62 ∧ -(2 ^ 62) ≤ hi ∧ hi < 2 ^ 62) ∧ ds.length = (lo - hi).toNat ∧ ∀ i, i < (lo - hi).toNat → ds[i]? = some (.int (lo + (i : Int) * (-1))) := by
  obtain ⟨hb, rfl⟩ := ite_some h
  refine ⟨hb, by simp, fun i hi => ?_⟩
  rw [List.getElem?_map, List.getElem?_range hi, show lo + (i : Int) * (-1) = lo - i by omega]
  rfl
/-- a list or tuple that is known -/
theorem rp_sq {K : PySem.W.Frag} {B : Hp} {v : V} {x : D} {ds : List D} (p : Rp K B v x) (h : itD x = some ds) : ∃ b a xs, v = .ref a ∧ (∀ H, Ex B H → SqB K b H a xs) ∧ RpA K B xs ds := by
  cases p with
  | @lst a xs _ hx rx =>
    cases h
    exact ⟨true, a, xs, rfl, fun H e => .inl ⟨rfl, Or.inl (Or.inl (e _ _ hx))⟩, rx⟩
  | @tup a xs _ hx rx =>
    cases h
    exact ⟨false, a, xs, rfl, fun H e => .inr ⟨rfl, sqt_mono e hx⟩, rx⟩
  | _ => cases h
section
variable {Γ : Gam} {e a b : Expr} {ia ib i : IE} {pos p0 : Pos}
theorem si_seq (h : SE Γ e i) : SI Γ e (.seq i) := fun X p tg o => by
  have h1 := PI_or (PI_or (pi_list (tg := tg) (h X p o)) (pi_tup (tg := tg) (h X p o))) (pi_str (tg := tg) (h X p o))
  rw [o.K] at h1
  exact h1
theorem si_rng1 (h : SE Γ e i) (hb : Γ.bs.contains "range" = true := by rfl) (hg : GlS Γ.sc "range" := by rfl) (hs : ∀ env, starEach [e] env = [(false, eval e env)] := by intro _; rfl) : SI Γ (.Call (.Name "range" p0) [e] [] pos) (.rng1 i) := fun X p tg o =>
  pi_range1 (o.gl hg) (o.bl _ (List.contains_iff_mem.mp hb)) ((sa_cons h sa_nil hs) X p o) (hs _)
end
section
variable {K : PySem.W.Frag} {cl : Cl} {p : Pa} {st st1 : Pl} {B M F : Hp} {env : List Sl} {σ : L2.St} {H : Hp} {ds : List D} {it : IT}
theorem itD_lst {d : D} {ds : List D} (h : itD d = some ds) : d = .list ds ∨ d = .tuple ds := by
  cases d with
  | list xs =>
    cases h
    exact .inl rfl
  | tuple xs =>
    cases h
    exact .inr rfl
  | _ => cases h
theorem rng_get {lo hi : Int} {ds : List D} (h : rngD lo hi = some ds) : (-(2 ^ 62) ≤ lo ∧ lo < 2 ^ 62 ∧ -(2 ^ 62) ≤ hi ∧ hi < 2 ^ 62) ∧ ds.length = (hi - lo).toNat ∧ ∀ i, i < (hi - lo).toNat → ds[i]? = some (.int (lo + (i : Int))) := by
  obtain ⟨hb, rfl⟩ := ite_some h
  refine ⟨hb, by simp, fun i hi => ?_⟩
  simp [hi]
theorem itS_itD {d : D} {ds : List D} (h : itS d = some ds) : itD d = some ds ∨ ∃ z, d = .str z ∧ ds = signsD z := by
  cases d with
  | list xs =>
    cases h
    exact .inl rfl
  | tuple xs =>
    cases h
    exact .inl rfl
  | str z =>
    cases h
    exact .inr ⟨z, rfl, rfl⟩
  | _ => cases h
theorem itS_lst {d : D} {ds : List D} (h : itS d = some ds) : d = .list ds ∨ d = .tuple ds ∨ ∃ z, d = .str z ∧ ds = signsD z := by
  cases d with
  | list xs =>
    cases h
    exact .inl rfl
  | tuple xs =>
    cases h
    exact .inr (.inl rfl)
  | str z =>
    cases h
    exact .inr (.inr ⟨z, rfl, rfl⟩)
  | _ => cases h
theorem signs_len (z : Str) : (signsD z).length = z.cps.size := by simp [signsD]
theorem signs_get {z : Str} {i c : Nat} (h : z.cps[i]? = some c) : (signsD z)[i]? = some (.str ⟨#[c]⟩) := by
  unfold signsD
  rw [List.getElem?_map, Array.getElem?_toList, h]
  rfl
/-- what a walk over it comes to: a rule for a loop, whatever is walked -/
theorem walk_for {D : Ends} {g : TG} {tb : TS} (r : Rel K p st B M F env σ H) (he : ei cl it env st = some (ds, st1)) (P : Hp → Nat → Hp → L2.St → Hp → Prop)
    (h0 : ∀ B1 H1, Ex B B1 → Rel K p st1 B1 M F env σ H1 → P B1 0 B1 σ H1) (hex : ∀ B1 i B' σ' H', P B1 i B' σ' H' → Ex B1 B' ∧ Ex B' H') (hn : ∀ B1 i B' σ' H' q o, P B1 i B' σ' H' → H' q = none → P B1 i (upd B' q o) σ' (upd H' q o))
    (hs : ∀ B1 i d v B' σ' H', Ex B B1 → ds[i]? = some d → Rp K B' v d → P B1 i B' σ' H' → g v σ' H' fun σ2 H2 => tb { D with nx := fun s h => ∃ B2, P B1 (i + 1) B2 s h, ct := fun s h => ∃ B2, P B1 (i + 1) B2 s h, bk := D.nx } σ2 H2)
    (hd : ∀ B1 B' σ' H', P B1 ds.length B' σ' H' → D.nx σ' H') : tFor (Ti K cl p it) g tb D σ H := by
  cases it with
  | seq e =>
    unfold ei at he
    cases e1 : ev cl e env st with
    | none =>
      rw [e1] at he
      cases he
    | some xs =>
      obtain ⟨x, st2⟩ := xs
      rw [e1] at he
      obtain ⟨ys, e2, e3⟩ := Option.map_eq_some_iff.mp he
      cases e3
      rcases itS_lst e2 with rfl | rfl | ⟨z, rfl, rfl⟩
      · refine .inl (.inl ⟨st, B, M, F, env, _, _, r, e1, fun v B1 H1 x1 r1 p1 => ?_⟩)
        cases p1 with
        | @lst a xs _ hx rx =>
          refine ⟨a, rfl, ⟨xs, Or.inl (Or.inl (r1.bs.b _ _ hx))⟩, ?_⟩
          refine for_list (xs := xs) (fun i s h => ∃ B', P B1 i B' s h) ⟨B1, h0 B1 H1 x1 r1⟩ (fun i s h _ q => ?_) (fun i v s h hi q => ?_) (fun s h q => ?_)
          · obtain ⟨B', q⟩ := q
            obtain ⟨y1, y2⟩ := hex _ _ _ _ _ q
            exact Or.inl (Or.inl (y2 _ _ (y1 _ _ hx)))
          · obtain ⟨B', q⟩ := q
            obtain ⟨d, h1, h2⟩ := rx.getV hi
            exact hs B1 i d v B' s h x1 h1 (h2.mono (hex _ _ _ _ _ q).1) q
          · obtain ⟨B', q⟩ := q
            rw [rx.length] at q
            exact hd B1 B' s h q
      · refine .inl (.inr ⟨st, B, M, F, env, _, _, r, e1, fun v B1 H1 x1 r1 p1 => ?_⟩)
        cases p1 with
        | @tup a xs _ hx rx =>
          refine ⟨a, rfl, ⟨xs, sqt_mono r1.bs.b hx⟩, ?_⟩
          refine for_tup (xs := xs) (fun i s h => ∃ B', P B1 i B' s h) ⟨B1, h0 B1 H1 x1 r1⟩ (fun i s h _ q => ?_) (fun i v s h hi q => ?_) (fun s h q => ?_)
          · obtain ⟨B', q⟩ := q
            obtain ⟨y1, y2⟩ := hex _ _ _ _ _ q
            exact sqt_mono (y1.trans y2) hx
          · obtain ⟨B', q⟩ := q
            obtain ⟨d, h1, h2⟩ := rx.getV hi
            exact hs B1 i d v B' s h x1 h1 (h2.mono (hex _ _ _ _ _ q).1) q
          · obtain ⟨B', q⟩ := q
            rw [rx.length] at q
            exact hd B1 B' s h q
      · refine .inr ⟨st, B, M, F, env, _, _, r, e1, fun v B1 H1 x1 r1 p1 => ?_⟩
        cases p1
        refine ⟨z, rfl, ?_⟩
        refine for_it walk_str (fun i s h => ∃ B', P B1 i B' s h) ⟨B1, h0 B1 H1 x1 r1⟩ (fun _ _ _ _ _ => True.intro) (fun i v s h h2 hi q y => ?_) (fun s h q => ?_)
        · obtain ⟨B', q⟩ := q
          obtain ⟨rfl, c, hc, rfl⟩ := y
          exact hs B1 i _ _ B' s h2 x1 (signs_get hc) (.str _) q
        · obtain ⟨B', q⟩ := q
          rw [← signs_len] at q
          exact hd B1 B' s h q
  | rng1 e =>
    unfold ei at he
    split at he
    · rename_i n st2 e1
      obtain ⟨ys, e2, e3⟩ := Option.map_eq_some_iff.mp he
      cases e3
      obtain ⟨⟨h1, h2, h3, h4⟩, hl, hg⟩ := rng_get e2
      refine ⟨st, B, M, F, env, [.int n], _, r, by unfold ea; rw [e1]; rfl, fun vs B1 H1 x1 r1 p1 => ?_⟩
      match vs, p1 with
      | [_], .cons (.int _) .nil =>
        refine ⟨n, rfl, h3, h4, ?_⟩
        have e0 : (n - 0).toNat = n.toNat := by rw [Int.sub_zero]
        rw [e0] at hl hg
        refine for_range (lo := 0) (n := n.toNat) (fun i s h => ∃ B', P B1 i B' s h) ⟨B1, h0 B1 H1 x1 r1⟩ (fun i s h hi q => ?_) (fun s h q => ?_)
        · obtain ⟨B', q⟩ := q
          exact hs B1 i _ _ B' s h x1 (hg i hi) (.int _) q
        · obtain ⟨B', q⟩ := q
          rw [← hl] at q
          exact hd B1 B' s h q
    · cases he
  | rng2 a b =>
    unfold ei at he
    split at he
    · rename_i lo st2 e1
      split at he
      · rename_i hi st3 e2
        obtain ⟨ys, e3, e4⟩ := Option.map_eq_some_iff.mp he
        cases e4
        obtain ⟨hbd, hl, hg⟩ := rng_get e3
        refine ⟨st, B, M, F, env, [.int lo, .int hi], _, r, by unfold ea; rw [e1]; unfold ea; simp only [e2]; rfl, fun vs B1 H1 x1 r1 p1 => ?_⟩
        match vs, p1 with
        | [_, _], .cons (.int _) (.cons (.int _) .nil) =>
          refine ⟨lo, hi, rfl, hbd, ?_⟩
          refine for_range (lo := lo) (n := (hi - lo).toNat) (fun i s h => ∃ B', P B1 i B' s h) ⟨B1, h0 B1 H1 x1 r1⟩ (fun i s h hi q => ?_) (fun s h q => ?_)
          · obtain ⟨B', q⟩ := q
            exact hs B1 i _ _ B' s h x1 (hg i hi) (.int _) q
          · obtain ⟨B', q⟩ := q
            rw [← hl] at q
            exact hd B1 B' s h q
      · cases he
    · cases he
  | rng3 a b =>
    unfold ei at he
    split at he
    · rename_i lo st2 e1
      split at he
      · rename_i hi st3 e2
        obtain ⟨ys, e3, e4⟩ := Option.map_eq_some_iff.mp he
        cases e4
        obtain ⟨⟨b1, b2, b3, b4⟩, hl, hg⟩ := rngN_get e3
        refine ⟨st, B, M, F, env, [.int lo, .int hi, .int (-1)], _, r, by unfold ea; rw [e1]; unfold ea; simp only [e2]; rfl, fun vs B1 H1 x1 r1 p1 => ?_⟩
        match vs, p1 with
        | [_, _, _], .cons (.int _) (.cons (.int _) (.cons (.int _) .nil)) =>
          refine ⟨lo, hi, -1, (lo - hi).toNat, rfl, RgC.neg b1 b2 b3 b4, ?_⟩
          refine for_rangeC (lo := lo) (c := -1) (n := (lo - hi).toNat) (fun i s h => ∃ B', P B1 i B' s h) ⟨B1, h0 B1 H1 x1 r1⟩ (fun i s h hi q => ?_) (fun s h q => ?_)
          · obtain ⟨B', q⟩ := q
            exact hs B1 i _ _ B' s h x1 (hg i hi) (.int _) q
          · obtain ⟨B', q⟩ := q
            rw [← hl] at q
            exact hd B1 B' s h q
      · cases he
    · cases he
  | enm e =>
    unfold ei at he
    split at he
    · rename_i x st2 e1
      obtain ⟨ys, e2, e3⟩ := Option.map_eq_some_iff.mp he
      cases e3
      rcases itS_itD e2 with e2 | ⟨z, rfl, rfl⟩
      rotate_left
      · refine .inr ⟨st, B, M, F, env, [.str z], _, r, by unfold ea; rw [e1]; rfl, fun vs B1 H1 x1 r1 p1 => ?_⟩
        match vs, p1 with
        | [_], .cons (.str _) .nil =>
          refine ⟨z, rfl, ?_⟩
          refine for_it walk_enS (fun i s h => ∃ B', P B1 i B' s h) ⟨B1, h0 B1 H1 x1 r1⟩ (fun _ _ _ _ _ => True.intro) (fun i v s h h2 hi q y => ?_) (fun s h q => ?_)
          · obtain ⟨B', q⟩ := q
            obtain ⟨T, c, rfl, hT, rfl, hc⟩ := y
            have g := enD_get (k := 0) (signs_get hc)
            rw [Nat.zero_add] at g
            exact hs B1 i _ _ (upd B' T (.tup [.int (i : Nat), .str ⟨#[c]⟩])) s _ x1 g (.tup (Or.inl (Or.inl upd_same)) (.cons (.int _) (.cons (.str _) .nil))) (hn _ _ _ _ _ _ _ q hT)
          · obtain ⟨B', q⟩ := q
            rw [← signs_len, ← enD_len 0] at q
            exact hd B1 B' s h q
      refine .inl ⟨st, B, M, F, env, [x], _, r, by unfold ea; rw [e1]; rfl, fun vs B1 H1 x1 r1 p1 => ?_⟩
      match vs, p1 with
      | [v], .cons pv .nil =>
        obtain ⟨b, a, xs, rfl, hq, rx⟩ := rp_sq pv e2
        refine ⟨b, a, xs, rfl, hq H1 r1.bs.b, ?_⟩
        refine for_it (walk_en (K := K) (b := b) (a := a) (xs := xs)) (fun i s h => ∃ B', P B1 i B' s h) ⟨B1, h0 B1 H1 x1 r1⟩ (fun i s h _ q => ?_) (fun i v s h h2 hi q y => ?_) (fun s h q => ?_)
        · obtain ⟨B', q⟩ := q
          obtain ⟨y1, y2⟩ := hex _ _ _ _ _ q
          exact hq h (y1.trans y2)
        · obtain ⟨B', q⟩ := q
          obtain ⟨T, x', y', rfl, hT, rfl, e4, e5⟩ := y
          cases e4
          obtain ⟨y1, y2⟩ := hex _ _ _ _ _ q
          obtain ⟨d, h3, h4⟩ := rx.getV e5
          have g := enD_get (k := 0) h3
          rw [Nat.zero_add] at g
          exact hs B1 i _ _ (upd B' T (.tup [.int (i : Nat), y'])) s _ x1 g (.tup (Or.inl (Or.inl upd_same)) (.cons (.int _) (.cons (h4.mono (y1.trans (Ex.new (y2.free hT)))) .nil))) (hn _ _ _ _ _ _ _ q hT)
        · obtain ⟨B', q⟩ := q
          rw [rx.length, ← enD_len 0] at q
          exact hd B1 B' s h q
    · cases he
  | zp a b =>
    unfold ei at he
    split at he
    · rename_i x st2 e1
      split at he
      · rename_i y st3 e2
        split at he
        · rename_i zx e3
          obtain ⟨zy, e4, e5⟩ := Option.map_eq_some_iff.mp he
          cases e5
          refine ⟨st, B, M, F, env, [x, y], _, r, by unfold ea; rw [e1]; unfold ea; simp only [e2]; rfl, fun vs B1 H1 x1 r1 p1 => ?_⟩
          match vs, p1 with
          | [v, u], .cons pv (.cons pu .nil) =>
            obtain ⟨b1, a1, xs, rfl, hq1, rx⟩ := rp_sq pv e3
            obtain ⟨b2, a2, ys, rfl, hq2, ry⟩ := rp_sq pu e4
            refine ⟨b1, b2, a1, a2, xs, ys, rfl, hq1 H1 r1.bs.b, hq2 H1 r1.bs.b, ?_⟩
            refine for_it (walk_zp (K := K) (b := b1) (c := b2) (a := a1) (d := a2) (xs := xs) (ys := ys)) (fun i s h => ∃ B', P B1 i B' s h) ⟨B1, h0 B1 H1 x1 r1⟩ (fun i s h _ q => ?_) (fun i v s h h2 hi q y => ?_) (fun s h q => ?_)
            · obtain ⟨B', q⟩ := q
              obtain ⟨y1, y2⟩ := hex _ _ _ _ _ q
              exact ⟨hq1 h (y1.trans y2), hq2 h (y1.trans y2)⟩
            · obtain ⟨B', q⟩ := q
              obtain ⟨T, x', y', rfl, hT, rfl, e4, e5⟩ := y
              obtain ⟨y1, y2⟩ := hex _ _ _ _ _ q
              obtain ⟨d, h3, h4⟩ := rx.getV e4
              obtain ⟨d2, h5, h6⟩ := ry.getV e5
              have n := y1.trans (Ex.new (o := .tup [x', y']) (y2.free hT))
              exact hs B1 i _ _ (upd B' T (.tup [x', y'])) s _ x1 (zpD_get h3 h5) (.tup (Or.inl (Or.inl upd_same)) (.cons (h4.mono n) (.cons (h6.mono n) .nil))) (hn _ _ _ _ _ _ _ q hT)
            · obtain ⟨B', q⟩ := q
              have e6 : min xs.length ys.length = (zpD zx zy).length := by rw [rx.length, ry.length]; exact List.length_zipWith.symm
              rw [e6] at q
              exact hd B1 B' s h q
        · cases he
      · cases he
    · cases he
  | dkeys n =>
    obtain ⟨tab, e1, rfl, rfl⟩ := ei_dkeys he
    refine ⟨st1, B, M, F, env, _, _, r, e1, fun v B1 H1 x1 r1 p1 => ?_⟩
    cases p1 with
    | @dctK a o kvs _ hx rx =>
      refine ⟨a, o, rfl, .inl ⟨kvs, r1.bs.b _ _ hx, ?_⟩⟩
      refine for_it walk_keys (fun i s h => ∃ B', P B1 i B' s h) ⟨B1, h0 B1 H1 x1 r1⟩ (fun i s h _ q => ?_) (fun i v s h h2 hi q y => ?_) (fun s h q => ?_)
      · obtain ⟨B', q⟩ := q
        obtain ⟨y1, y2⟩ := hex _ _ _ _ _ q
        exact y2 _ _ (y1 _ _ hx)
      · obtain ⟨B', q⟩ := q
        obtain ⟨rfl, k, u, h1, rfl⟩ := y
        exact hs B1 i _ _ B' s h2 x1 (rx.key h1) (kV_rp k) q
      · obtain ⟨B', q⟩ := q
        rw [rx.len, ← List.length_map (·.1)] at q
        exact hd B1 B' s h q

/-- the same of a comprehension -/
theorem walk_lcG {Q : VK} {js : List Nat} {g : TG} {tt : TT} {te : TE} (r : Rel K p st B M F env σ H) (he : ei cl it env st = some (ds, st1)) (P : Hp → Addr → Nat → Hp → Hp → Prop)
    (h0 : ∀ B1 H1 Dl, Ex B B1 → Rel K p st1 B1 M F env σ H1 → H1 Dl = none → P B1 Dl 0 B1 (upd H1 Dl (.lst []))) (hex : ∀ B1 Dl i B' H', P B1 Dl i B' H' → Ex B1 B' ∧ Ex B' H') (hn : ∀ B1 Dl i B' H' q o, P B1 Dl i B' H' → H' q = none → P B1 Dl i (upd B' q o) (upd H' q o))
    (hst0 : ∀ B1 Dl i d v B' H', Ex B B1 → ds[i]? = some d → Rp K B' v d → P B1 Dl i B' H' → g v (wipe σ js) H' fun σ2 H2 => wipe σ2 js = wipe σ js ∧ tt σ2 H2 fun b H3 =>
      if b = true then te σ2 H3 fun y H4 => ∃ acc, H4 Dl = some (.lst acc) ∧ acc.length < sizeLine ∧ ∃ B2, P B1 Dl (i + 1) B2 (upd H4 Dl (.lst (acc ++ [y]))) else ∃ B2, P B1 Dl (i + 1) B2 H3)
    (hd : ∀ B1 Dl B' H', Ex B B1 → P B1 Dl ds.length B' H' → Q (.ref Dl) H') : tLc (Ti K cl p it) g tt te js σ H Q := by
  have hst : ∀ B1 Dl i d v B' H', Ex B B1 → ds[i]? = some d → Rp K B1 v d → P B1 Dl i B' H' → g v (wipe σ js) H' fun σ2 H2 => wipe σ2 js = wipe σ js ∧ tt σ2 H2 fun b H3 =>
      if b = true then te σ2 H3 fun y H4 => ∃ acc, H4 Dl = some (.lst acc) ∧ acc.length < sizeLine ∧ ∃ B2, P B1 Dl (i + 1) B2 (upd H4 Dl (.lst (acc ++ [y]))) else ∃ B2, P B1 Dl (i + 1) B2 H3 := fun B1 Dl i d v B' H' x1 hi pv q => hst0 B1 Dl i d v B' H' x1 hi (pv.mono (hex _ _ _ _ _ q).1) q
  cases it with
  | seq e =>
    unfold ei at he
    cases e1 : ev cl e env st with
    | none =>
      rw [e1] at he
      cases he
    | some xs =>
      obtain ⟨x, st2⟩ := xs
      rw [e1] at he
      obtain ⟨ys, e2, e3⟩ := Option.map_eq_some_iff.mp he
      cases e3
      rcases itS_lst e2 with rfl | rfl | ⟨z, rfl, rfl⟩
      · refine .inl (.inl ⟨st, B, M, F, env, _, _, r, e1, fun v B1 H1 x1 r1 p1 => ?_⟩)
        cases p1 with
        | @lst a xs _ hx rx =>
          refine ⟨a, rfl, ⟨xs, Or.inl (Or.inl (r1.bs.b _ _ hx))⟩, fun Dl hD => ?_⟩
          refine lc_list (xs := xs) (fun i h => ∃ B', P B1 Dl i B' h) ⟨B1, h0 B1 H1 Dl x1 r1 hD⟩ (fun i h _ q => ?_) (fun i v h hi q => ?_) (fun h q => ?_)
          · obtain ⟨B', q⟩ := q
            obtain ⟨y1, y2⟩ := hex _ _ _ _ _ q
            exact Or.inl (Or.inl (y2 _ _ (y1 _ _ hx)))
          · obtain ⟨B', q⟩ := q
            obtain ⟨d, h1, h2⟩ := rx.getV hi
            exact hst B1 Dl i d v B' h x1 h1 h2 q
          · obtain ⟨B', q⟩ := q
            rw [rx.length] at q
            exact hd B1 Dl B' h x1 q
      · refine .inl (.inr ⟨st, B, M, F, env, _, _, r, e1, fun v B1 H1 x1 r1 p1 => ?_⟩)
        cases p1 with
        | @tup a xs _ hx rx =>
          refine ⟨a, rfl, ⟨xs, sqt_mono r1.bs.b hx⟩, fun Dl hD => ?_⟩
          refine lc_tup (xs := xs) (fun i h => ∃ B', P B1 Dl i B' h) ⟨B1, h0 B1 H1 Dl x1 r1 hD⟩ (fun i h _ q => ?_) (fun i v h hi q => ?_) (fun h q => ?_)
          · obtain ⟨B', q⟩ := q
            obtain ⟨y1, y2⟩ := hex _ _ _ _ _ q
            exact sqt_mono (y1.trans y2) hx
          · obtain ⟨B', q⟩ := q
            obtain ⟨d, h1, h2⟩ := rx.getV hi
            exact hst B1 Dl i d v B' h x1 h1 h2 q
          · obtain ⟨B', q⟩ := q
            rw [rx.length] at q
            exact hd B1 Dl B' h x1 q
      · refine .inr ⟨st, B, M, F, env, _, _, r, e1, fun v B1 H1 x1 r1 p1 => ?_⟩
        cases p1
        refine ⟨z, rfl, fun Dl hD => ?_⟩
        refine lc_it walk_str (fun i h => ∃ B', P B1 Dl i B' h) ⟨B1, h0 B1 H1 Dl x1 r1 hD⟩ (fun _ _ _ _ => True.intro) (fun i v h h2 hi q y => ?_) (fun h q => ?_)
        · obtain ⟨B', q⟩ := q
          obtain ⟨rfl, c, hc, rfl⟩ := y
          exact hst B1 Dl i _ _ B' h2 x1 (signs_get hc) (.str _) q
        · obtain ⟨B', q⟩ := q
          rw [← signs_len] at q
          exact hd B1 Dl B' h x1 q
  | rng1 e =>
    unfold ei at he
    split at he
    · rename_i n st2 e1
      obtain ⟨ys, e2, e3⟩ := Option.map_eq_some_iff.mp he
      cases e3
      obtain ⟨⟨h1, h2, h3, h4⟩, hl, hg⟩ := rng_get e2
      refine ⟨st, B, M, F, env, [.int n], _, r, by unfold ea; rw [e1]; rfl, fun vs B1 H1 x1 r1 p1 => ?_⟩
      match vs, p1 with
      | [_], .cons (.int _) .nil =>
        refine ⟨n, rfl, h3, h4, fun Dl hD => ?_⟩
        have e0 : (n - 0).toNat = n.toNat := by rw [Int.sub_zero]
        rw [e0] at hl hg
        refine lc_range (lo := 0) (n := n.toNat) (fun i h => ∃ B', P B1 Dl i B' h) ⟨B1, h0 B1 H1 Dl x1 r1 hD⟩ (fun i h hi q => ?_) (fun h q => ?_)
        · obtain ⟨B', q⟩ := q
          exact hst B1 Dl i _ _ B' h x1 (hg i hi) (.int _) q
        · obtain ⟨B', q⟩ := q
          rw [← hl] at q
          exact hd B1 Dl B' h x1 q
    · cases he
  | rng2 a b =>
    unfold ei at he
    split at he
    · rename_i lo st2 e1
      split at he
      · rename_i hi st3 e2
        obtain ⟨ys, e3, e4⟩ := Option.map_eq_some_iff.mp he
        cases e4
        obtain ⟨hbd, hl, hg⟩ := rng_get e3
        refine ⟨st, B, M, F, env, [.int lo, .int hi], _, r, by unfold ea; rw [e1]; unfold ea; simp only [e2]; rfl, fun vs B1 H1 x1 r1 p1 => ?_⟩
        match vs, p1 with
        | [_, _], .cons (.int _) (.cons (.int _) .nil) =>
          refine ⟨lo, hi, rfl, hbd, fun Dl hD => ?_⟩
          refine lc_range (lo := lo) (n := (hi - lo).toNat) (fun i h => ∃ B', P B1 Dl i B' h) ⟨B1, h0 B1 H1 Dl x1 r1 hD⟩ (fun i h hi q => ?_) (fun h q => ?_)
          · obtain ⟨B', q⟩ := q
            exact hst B1 Dl i _ _ B' h x1 (hg i hi) (.int _) q
          · obtain ⟨B', q⟩ := q
            rw [← hl] at q
            exact hd B1 Dl B' h x1 q
      · cases he
    · cases he
  | rng3 a b =>
    unfold ei at he
    split at he
    · rename_i lo st2 e1
      split at he
      · rename_i hi st3 e2
        obtain ⟨ys, e3, e4⟩ := Option.map_eq_some_iff.mp he
        cases e4
        obtain ⟨⟨b1, b2, b3, b4⟩, hl, hg⟩ := rngN_get e3
        refine ⟨st, B, M, F, env, [.int lo, .int hi, .int (-1)], _, r, by unfold ea; rw [e1]; unfold ea; simp only [e2]; rfl, fun vs B1 H1 x1 r1 p1 => ?_⟩
        match vs, p1 with
        | [_, _, _], .cons (.int _) (.cons (.int _) (.cons (.int _) .nil)) =>
          refine ⟨lo, hi, -1, (lo - hi).toNat, rfl, RgC.neg b1 b2 b3 b4, fun Dl hD => ?_⟩
          refine lc_it (walk_rangeC (lo := lo) (c := -1) (n := (lo - hi).toNat)) (fun i h => ∃ B', P B1 Dl i B' h) ⟨B1, h0 B1 H1 Dl x1 r1 hD⟩ (fun _ _ _ _ => True.intro) (fun i v h h2 hi q y => ?_) (fun h q => ?_)
          · obtain ⟨B', q⟩ := q
            obtain ⟨rfl, rfl⟩ := y
            exact hst B1 Dl i _ _ B' h2 x1 (hg i hi) (.int _) q
          · obtain ⟨B', q⟩ := q
            rw [← hl] at q
            exact hd B1 Dl B' h x1 q
      · cases he
    · cases he
  | enm e =>
    unfold ei at he
    split at he
    · rename_i x st2 e1
      obtain ⟨ys, e2, e3⟩ := Option.map_eq_some_iff.mp he
      cases e3
      rcases itS_itD e2 with e2 | ⟨z, rfl, rfl⟩
      rotate_left
      · refine .inr ⟨st, B, M, F, env, [.str z], _, r, by unfold ea; rw [e1]; rfl, fun vs B1 H1 x1 r1 p1 => ?_⟩
        match vs, p1 with
        | [_], .cons (.str _) .nil =>
          refine ⟨z, rfl, fun Dl hD => ?_⟩
          refine lc_it walk_enS (fun i h => ∃ B', P B1 Dl i B' h) ⟨B1, h0 B1 H1 Dl x1 r1 hD⟩ (fun _ _ _ _ => True.intro) (fun i v h h2 hi q y => ?_) (fun h q => ?_)
          · obtain ⟨B', q⟩ := q
            obtain ⟨T, c, rfl, hT, rfl, hc⟩ := y
            have g := enD_get (k := 0) (signs_get hc)
            rw [Nat.zero_add] at g
            exact hst0 B1 Dl i _ _ (upd B' T (.tup [.int (i : Nat), .str ⟨#[c]⟩])) _ x1 g (.tup (Or.inl (Or.inl upd_same)) (.cons (.int _) (.cons (.str _) .nil))) (hn _ _ _ _ _ _ _ q hT)
          · obtain ⟨B', q⟩ := q
            rw [← signs_len, ← enD_len 0] at q
            exact hd B1 Dl B' h x1 q
      refine .inl ⟨st, B, M, F, env, [x], _, r, by unfold ea; rw [e1]; rfl, fun vs B1 H1 x1 r1 p1 => ?_⟩
      match vs, p1 with
      | [v], .cons pv .nil =>
        obtain ⟨b, a, xs, rfl, hq, rx⟩ := rp_sq pv e2
        refine ⟨b, a, xs, rfl, hq H1 r1.bs.b, fun Dl hD => ?_⟩
        refine lc_it (walk_en (K := K) (b := b) (a := a) (xs := xs)) (fun i h => ∃ B', P B1 Dl i B' h) ⟨B1, h0 B1 H1 Dl x1 r1 hD⟩ (fun i h _ q => ?_) (fun i v h h2 hi q y => ?_) (fun h q => ?_)
        · obtain ⟨B', q⟩ := q
          obtain ⟨y1, y2⟩ := hex _ _ _ _ _ q
          exact hq h (y1.trans y2)
        · obtain ⟨B', q⟩ := q
          obtain ⟨T, x', y', rfl, hT, rfl, e4, e5⟩ := y
          cases e4
          obtain ⟨y1, y2⟩ := hex _ _ _ _ _ q
          obtain ⟨d, h3, h4⟩ := rx.getV e5
          have g := enD_get (k := 0) h3
          rw [Nat.zero_add] at g
          exact hst0 B1 Dl i _ _ (upd B' T (.tup [.int (i : Nat), y'])) _ x1 g (.tup (Or.inl (Or.inl upd_same)) (.cons (.int _) (.cons (h4.mono (y1.trans (Ex.new (y2.free hT)))) .nil))) (hn _ _ _ _ _ _ _ q hT)
        · obtain ⟨B', q⟩ := q
          rw [rx.length, ← enD_len 0] at q
          exact hd B1 Dl B' h x1 q
    · cases he
  | zp a b =>
    unfold ei at he
    split at he
    · rename_i x st2 e1
      split at he
      · rename_i y st3 e2
        split at he
        · rename_i zx e3
          obtain ⟨zy, e4, e5⟩ := Option.map_eq_some_iff.mp he
          cases e5
          refine ⟨st, B, M, F, env, [x, y], _, r, by unfold ea; rw [e1]; unfold ea; simp only [e2]; rfl, fun vs B1 H1 x1 r1 p1 => ?_⟩
          match vs, p1 with
          | [v, u], .cons pv (.cons pu .nil) =>
            obtain ⟨b1, a1, xs, rfl, hq1, rx⟩ := rp_sq pv e3
            obtain ⟨b2, a2, ys, rfl, hq2, ry⟩ := rp_sq pu e4
            refine ⟨b1, b2, a1, a2, xs, ys, rfl, hq1 H1 r1.bs.b, hq2 H1 r1.bs.b, fun Dl hD => ?_⟩
            refine lc_it (walk_zp (K := K) (b := b1) (c := b2) (a := a1) (d := a2) (xs := xs) (ys := ys)) (fun i h => ∃ B', P B1 Dl i B' h) ⟨B1, h0 B1 H1 Dl x1 r1 hD⟩ (fun i h _ q => ?_) (fun i v h h2 hi q y => ?_) (fun h q => ?_)
            · obtain ⟨B', q⟩ := q
              obtain ⟨y1, y2⟩ := hex _ _ _ _ _ q
              exact ⟨hq1 h (y1.trans y2), hq2 h (y1.trans y2)⟩
            · obtain ⟨B', q⟩ := q
              obtain ⟨T, x', y', rfl, hT, rfl, e4, e5⟩ := y
              obtain ⟨y1, y2⟩ := hex _ _ _ _ _ q
              obtain ⟨d, h3, h4⟩ := rx.getV e4
              obtain ⟨d2, h5, h6⟩ := ry.getV e5
              have n := y1.trans (Ex.new (o := .tup [x', y']) (y2.free hT))
              exact hst0 B1 Dl i _ _ (upd B' T (.tup [x', y'])) _ x1 (zpD_get h3 h5) (.tup (Or.inl (Or.inl upd_same)) (.cons (h4.mono n) (.cons (h6.mono n) .nil))) (hn _ _ _ _ _ _ _ q hT)
            · obtain ⟨B', q⟩ := q
              have e6 : min xs.length ys.length = (zpD zx zy).length := by rw [rx.length, ry.length]; exact List.length_zipWith.symm
              rw [e6] at q
              exact hd B1 Dl B' h x1 q
        · cases he
      · cases he
    · cases he
  | dkeys n =>
    obtain ⟨tab, e1, rfl, rfl⟩ := ei_dkeys he
    refine ⟨st1, B, M, F, env, _, _, r, e1, fun v B1 H1 x1 r1 p1 => ?_⟩
    cases p1 with
    | @dctK a o kvs _ hx rx =>
      refine ⟨a, o, rfl, .inl ⟨kvs, r1.bs.b _ _ hx, fun Dl hD => ?_⟩⟩
      refine lc_it walk_keys (fun i h => ∃ B', P B1 Dl i B' h) ⟨B1, h0 B1 H1 Dl x1 r1 hD⟩ (fun i h _ q => ?_) (fun i v h h2 hi q y => ?_) (fun h q => ?_)
      · obtain ⟨B', q⟩ := q
        obtain ⟨y1, y2⟩ := hex _ _ _ _ _ q
        exact y2 _ _ (y1 _ _ hx)
      · obtain ⟨B', q⟩ := q
        obtain ⟨rfl, k, u, h1, rfl⟩ := y
        exact hst0 B1 Dl i _ _ B' h2 x1 (rx.key h1) (kV_rp k) q
      · obtain ⟨B', q⟩ := q
        rw [rx.len, ← List.length_map (·.1)] at q
        exact hd B1 Dl B' h x1 q
theorem walk_lc {Q : VK} {j : Nat} {tt : TT} {te : TE} (r : Rel K p st B M F env σ H) (he : ei cl it env st = some (ds, st1)) (P : Hp → Addr → Nat → Hp → Hp → Prop)
    (h0 : ∀ B1 H1 Dl, Ex B B1 → Rel K p st1 B1 M F env σ H1 → H1 Dl = none → P B1 Dl 0 B1 (upd H1 Dl (.lst []))) (hex : ∀ B1 Dl i B' H', P B1 Dl i B' H' → Ex B1 B' ∧ Ex B' H') (hn : ∀ B1 Dl i B' H' q o, P B1 Dl i B' H' → H' q = none → P B1 Dl i (upd B' q o) (upd H' q o))
    (hs : ∀ B1 Dl i d v B' H', Ex B B1 → ds[i]? = some d → Rp K B' v d → P B1 Dl i B' H' → tt (σ.set j (some v)) H' fun b H3 => if b = true then te (σ.set j (some v)) H3 fun y H4 => ∃ acc, H4 Dl = some (.lst acc) ∧ acc.length < sizeLine ∧ ∃ B2, P B1 Dl (i + 1) B2 (upd H4 Dl (.lst (acc ++ [y]))) else ∃ B2, P B1 Dl (i + 1) B2 H3)
    (hd : ∀ B1 Dl B' H', Ex B B1 → P B1 Dl ds.length B' H' → Q (.ref Dl) H') : tLc (Ti K cl p it) (gName j) tt te [j] σ H Q := by
  have hw : ∀ v : V, wipe ((wipe σ [j]).set j (some v)) [j] = wipe σ [j] := fun v => by simp [wipe]
  have hw2 : ∀ v : V, (wipe σ [j]).set j (some v) = σ.set j (some v) := fun v => by simp [wipe]
  refine walk_lcG r he P h0 hex hn (fun B1 Dl i d v B' H' x1 hi pv q => ?_) hd
  show wipe ((wipe σ [j]).set j (some v)) [j] = wipe σ [j] ∧ _
  refine ⟨hw v, ?_⟩
  rw [hw2 v]
  exact hs B1 Dl i d v B' H' x1 hi pv q
end
end Ip

set_option Elab.async false
set_option linter.all false
set_option maxRecDepth 100000
set_option maxHeartbeats 4000000
namespace Ip
open PySem L2
/-- an address that none of the parts knows -/
structure Fr (B M F : Hp) (p : Pa) (a : Addr) : Prop where
  b : B a = none
  m : M a = none
  f : F a = none
  p : NotP p a
section
variable {K : PySem.W.Frag} {p : Pa} {st st' : Pl} {B B' M F : Hp} {env env' : List Sl} {σ σ' : L2.St} {H H' : Hp} {a : Addr} {o : HO}
theorem Rel.fr (r : Rel K p st B M F env σ H) (h : H a = none) : Fr B M F p a := ⟨r.bs.b.free h, r.m.free h, r.bs.f.free h, r.bs.pn h, fun k hk => r.bs.ce.ne h hk rfl, fun t ht => r.bs.ce.tne ht (.inl h)⟩
/-- no table is such an own list -/
theorem Rel.mtn (r : Rel K p st B M F env σ H) (h : M a = some o) : ∀ q ∈ p.tb, q.1 ≠ a := fun q hq e => by
  have := r.mt q hq
  rw [e, h] at this
  cases this
/-- such an address may change -/
theorem Rel.put (r : Rel K p st B M F env σ H) (f : Fr B M F p a) (hl : H a = none ∨ ∃ xs, H a = some (.lst xs)) : Rel K p st B M F env σ (upd H a o) where
  bs := {
    b := r.bs.b.right f.b
    f := r.bs.f.right f.f
    d := r.bs.d
    pf := r.bs.pf
    pb := r.bs.pb
    pl := by
      obtain ⟨h1, h2⟩ := r.bs.pl
      exact ⟨by rw [upd_ne (fun e => f.p.1 e.symm)]; exact h1, h2⟩
    ce := r.bs.ce.up (fun k c hk => ⟨(r.bs.ce.b k c hk).1, (r.bs.ce.b k c hk).2.1⟩) (fun k c hk => by rw [upd_ne (fun e => f.p.2.1 k (by rw [← e]; exact hk))]) r.bs.ce.tn fun z => tabs_upd z hl }
  m := r.m.right f.m
  md := r.md
  mc := r.mc
  mt := r.mt
  en := r.en
theorem SlR.up (f : M a = none) : ∀ {s : Sl} {w : Option V}, SlR K p B M s w → SlR K p B (upd M a o) s w
  | .no, _, _ => True.intro
  | .im _, some _, h => h
  | .im _, none, h => h
  | .ow _, some (.ref _), h => by
    obtain ⟨xs, h1, h2⟩ := h
    exact ⟨xs, by rw [upd_ne (ne_of_none h1 f)]; exact h1, h2⟩
  | .ow _, some .non, h | .ow _, some (.bl _), h | .ow _, some (.int _), h | .ow _, some (.str _), h | .ow _, some (.byt _), h | .ow _, some (.flt _), h | .ow _, some (.ty _), h | .ow _, none, h => h
  | .pl, some (.ref _), h => h
  | .pl, some .non, h | .pl, some (.bl _), h | .pl, some (.int _), h | .pl, some (.str _), h | .pl, some (.byt _), h | .pl, some (.flt _), h | .pl, some (.ty _), h | .pl, none, h => h
  | .ce _, some (.ref _), h => h
  | .ce _, some .non, h | .ce _, some (.bl _), h | .ce _, some (.int _), h | .ce _, some (.str _), h | .ce _, some (.byt _), h | .ce _, some (.flt _), h | .ce _, some (.ty _), h | .ce _, none, h => h
  | .er _ _, _, h => h
  | .dk _, _, h => h
  | .sf, _, h => h
  | .od _ _, _, h => by
    obtain ⟨b, u, h1, h2, h3⟩ := h
    exact ⟨b, u, h1, by rw [upd_ne (ne_of_none h2 f)]; exact h2, h3⟩
theorem EnR.up (f : M a = none) (h : EnR K p B M env σ) : EnR K p B (upd M a o) env σ := ⟨h.len, fun i s hi => by
  obtain ⟨w, h1, h2⟩ := h.at_ i s hi
  exact ⟨w, h1, h2.up f⟩, h.ap, h.io⟩
/-- such an object taken among the own ones -/
theorem Rel.take (r : Rel K p st B M F env σ H) (f : Fr B M F p a) (ha : H a = some o) : Rel K p st B (upd M a o) F env σ H where
  bs := r.bs
  m := fun b u h => by
    by_cases hb : b = a
    · subst hb
      rw [upd_same] at h
      rw [← h]
      exact ha
    · rw [upd_ne hb] at h
      exact r.m b u h
  md := fun b u h => by
    by_cases hb : b = a
    · subst hb
      exact ⟨f.b, f.f, f.p.1⟩
    · rw [upd_ne hb] at h
      exact r.md b u h
  mc := fun k c hk => by
    rw [upd_ne (fun e => f.p.2.1 k (by rw [← e]; exact hk))]
    exact r.mc k c hk
  mt := fun q hq => by
    rw [upd_ne (f.p.2.2 q hq)]
    exact r.mt q hq
  en := r.en.up f.m
theorem EnR.set (h : EnR K p B M env σ) {v : V} {d : D} (pv : Rp K B v d) (j : Nat) : EnR K p B M (env.set j (.im d)) (σ.set j (some v)) where
  len := by rw [List.length_set, List.length_set]; exact h.len
  at_ := fun i s hi => by
    by_cases e : j = i
    · subst e
      have hl : j < env.length := by
        have := (List.getElem?_eq_some_iff.mp hi).1
        rw [List.length_set] at this
        exact this
      rw [List.getElem?_set_self hl] at hi
      cases hi
      exact ⟨some v, List.getElem?_set_self (by rw [← h.len]; exact hl), pv⟩
    · rw [List.getElem?_set_ne e] at hi
      obtain ⟨w, h1, h2⟩ := h.at_ i s hi
      exact ⟨w, by rw [List.getElem?_set_ne e]; exact h1, h2⟩
  ap := h.ap.set j rfl _
  io := fun i a ds hp hi => by
    by_cases e : j = i
    · subst e
      have hl : j < env.length := by
        have := (List.getElem?_eq_some_iff.mp hi).1
        rw [List.length_set] at this
        exact this
      rw [List.getElem?_set_self hl] at hi
      cases hi
    · rw [List.getElem?_set_ne e] at hi ⊢
      exact h.io i a ds hp hi
theorem Rel.set (r : Rel K p st B M F env σ H) {v : V} {d : D} (pv : Rp K B v d) (j : Nat) : Rel K p st B M F (env.set j (.im d)) (σ.set j (some v)) H := ⟨r.bs, r.m, r.md, r.mc, r.mt, r.en.set pv j⟩
/-- behind a block that had one own object more, and names of its own -/
theorem Rel.rest (r : Rel K p st B M F env σ H) (f : M a = none) (x : Ex B B') (r' : Rel K p st' B' (upd M a o) F env' σ' H') : Rel K p st' B' M F env σ H' where
  bs := r'.bs
  m := fun b u h => r'.m b u (by rw [upd_ne (ne_of_none h f)]; exact h)
  md := fun b u h => ⟨(r'.md b u (by rw [upd_ne (ne_of_none h f)]; exact h)).1, (r.md b u h).2⟩
  mc := r.mc
  mt := r.mt
  en := r.en.mono x
theorem Rel.restFr (f : Fr B M F p a) (r' : Rel K p st' B' (upd M a o) F env' σ' H') : Fr B' M F p a ∧ H' a = some o := ⟨⟨(r'.md a o upd_same).1, f.m, f.f, f.p⟩, r'.m a o upd_same⟩
end
section
variable {Γ : Gam} {e : Expr} {i : IE} {pos : Pos}
theorem sts_nil : STs Γ [] .nil := fun X p o => PTs_weak pts_nil fun σ H Q q => by
  obtain ⟨st, B, M, F, env, b, st', r, he, k⟩ := q
  unfold et at he
  cases he
  exact k B H (Ex.refl B) r
theorem sts_one (h : ST Γ e i) : STs Γ [e] (.cons i .nil) := fun X p o => PTs_weak (pts_one (h X p o)) fun σ H Q q => by
  obtain ⟨st, B, M, F, env, b, st', r, he, k⟩ := q
  unfold et at he
  split at he
  · rename_i st1 e1
    unfold et at he
    cases he
    exact ⟨st, B, M, F, env, true, _, r, e1, k⟩
  · rename_i st1 e1
    cases he
    exact ⟨st, B, M, F, env, false, _, r, e1, k⟩
  · cases he
def lcF (cl : Cl) (j : Nat) (cs : IEs) (e : IE) (env : List Sl) : D → Pl → Option (Option D × Pl) := fun d st => match et cl cs (env.set j (.im d)) st with
        | some (true, st2) => (match ev cl e (env.set j (.im d)) st2 with
          | some (y, st3) => some (some y, st3)
          | none => none)
        | some (false, st2) => some (none, st2)
        | none => none
theorem ev_lc {cl : Cl} {j : Nat} {it : IT} {cs : IEs} {e : IE} {env : List Sl} {st : Pl} {d : D} {st4 : Pl} (h : ev cl (.lc j it cs e) env st = some (d, st4)) :
    ∃ ds st1 ys, ei cl it env st = some (ds, st1) ∧ ds.length ≤ most ∧ lcG (lcF cl j cs e env) ds st1 = some (ys, st4) ∧ d = .list ys := by
  unfold ev at h
  split at h
  · rename_i ds st1 e1
    obtain ⟨hl, h⟩ : ds.length ≤ most ∧ _ := by
      by_cases hl : ds.length ≤ most
      · rw [if_pos hl] at h
        exact ⟨hl, h⟩
      · rw [if_neg hl] at h
        cases h
    split at h
    · rename_i ys st5 e2
      cases h
      exact ⟨ds, st1, ys, e1, hl, e2, rfl⟩
    · cases h
  · cases h
theorem lcG_cons {f : D → Pl → Option (Option D × Pl)} {d : D} {ds : List D} {st : Pl} {ys : List D} {st4 : Pl} (h : lcG f (d :: ds) st = some (ys, st4)) :
    (∃ st1, f d st = some (none, st1) ∧ lcG f ds st1 = some (ys, st4)) ∨ (∃ y st1 zs, f d st = some (some y, st1) ∧ lcG f ds st1 = some (zs, st4) ∧ ys = y :: zs) := by
  unfold lcG at h
  split at h
  · rename_i st1 e1
    exact .inl ⟨st1, e1, h⟩
  · rename_i y st1 e1
    split at h
    · rename_i zs st2 e2
      cases h
      exact .inr ⟨y, st1, zs, e1, e2, rfl⟩
    · cases h
  · cases h
theorem lcP_new {K : PySem.W.Frag} {B B1 B' M F : Hp} {p : Pa} {Dl q : Addr} {n : Nat} {H' : Hp} {o : HO} {env : List Sl} {σ : L2.St} {R : List D → Pl → List D → Prop}
    (z : Ex B1 B' ∧ Ex B' H' ∧ Ex B B' ∧ ∃ sti acc zs rest, Rel K p sti B' M F env σ H' ∧ H' Dl = some (.lst acc) ∧ RpA K B' acc zs ∧ Fr B' M F p Dl ∧ zs.length ≤ n ∧ R zs sti rest) (hq : H' q = none) :
    Ex B1 (upd B' q o) ∧ Ex (upd B' q o) (upd H' q o) ∧ Ex B (upd B' q o) ∧ ∃ sti acc zs rest, Rel K p sti (upd B' q o) M F env σ (upd H' q o) ∧ (upd H' q o) Dl = some (.lst acc) ∧ RpA K (upd B' q o) acc zs ∧ Fr (upd B' q o) M F p Dl ∧ zs.length ≤ n ∧ R zs sti rest := by
  obtain ⟨x1, x2, x3, sti, acc, zs, rest, r, ha, ra, f, hz, hr⟩ := z
  have nb : B' q = none := x2.free hq
  have hd : Dl ≠ q := ne_of_none ha hq
  exact ⟨x1.trans (Ex.new nb), x2.up, x3.trans (Ex.new nb), sti, acc, zs, rest, r.new hq, by rw [upd_ne hd]; exact ha, ra.mono (Ex.new nb), ⟨by rw [upd_ne hd]; exact f.b, f.m, f.f, f.p⟩, hz, hr⟩
theorem lc_read {K : PySem.W.Frag} {cl : Cl} {j : Nat} {it : IT} {cs : IEs} {ie : IE} {σ : L2.St} {H : Hp} {Q : VK} (q : Tf K cl p (.lc j it cs ie) σ H Q) : tLc (Ti K cl p it) (gName j) (Ts K cl p cs) (Tx K cl p ie) [j] σ H Q := by
  obtain ⟨st, B, M, F, env, ds, st', r, he, k⟩ := q
  obtain ⟨dz, st1, ys, e1, hl, e2, e3⟩ := ev_lc he
  cases e3
  refine walk_lc r e1 (fun B1 Dl n B' H' => Ex B1 B' ∧ Ex B' H' ∧ Ex B B' ∧ ∃ sti acc zs rest, Rel K p sti B' M F env σ H' ∧ H' Dl = some (.lst acc) ∧ RpA K B' acc zs ∧ Fr B' M F p Dl ∧ zs.length ≤ n ∧ lcG (lcF cl j cs ie env) (dz.drop n) sti = some (rest, st') ∧ zs ++ rest = ds)
    (fun B1 H1 Dl x1 r1 hD => ?_) (fun B1 Dl n B' H' q => ⟨q.1, q.2.1⟩) (fun B1 Dl n B' H' q o z hq => lcP_new (R := fun zs sti rest => lcG (lcF cl j cs ie env) (dz.drop n) sti = some (rest, st') ∧ zs ++ rest = ds) z hq) (fun B1 Dl n d v B' H' x1 hd pv q => ?_) (fun B1 Dl B' H' x1 q => ?_)
  · have f := r1.fr hD
    exact ⟨Ex.refl B1, (r1.put f (.inl hD)).bs.b, x1, st1, [], [], ds, r1.put f (.inl hD), upd_same, .nil, f, Nat.le_refl _, e2, rfl⟩
  · obtain ⟨x2, x3, x4, sti, acc, zs, rest, r2, hacc, racc, f, hz, e4, e5⟩ := q
    have hdr : dz.drop n = d :: dz.drop (n + 1) := List.drop_eq_getElem_cons (by
        exact (List.getElem?_eq_some_iff.mp hd).1) |>.trans (by rw [(List.getElem?_eq_some_iff.mp hd).2])
    have hn : n < dz.length := (List.getElem?_eq_some_iff.mp hd).1
    rw [hdr] at e4
    have r3 := (r2.take f hacc).set pv j
    have key : ∀ (b : Bool) (st2 : Pl), et cl cs (env.set j (.im d)) sti = some (b, st2) → (b = false → lcG (lcF cl j cs ie env) (dz.drop (n + 1)) st2 = some (rest, st')) →
        (b = true → ∃ y st3 zs', ev cl ie (env.set j (.im d)) st2 = some (y, st3) ∧ lcG (lcF cl j cs ie env) (dz.drop (n + 1)) st3 = some (zs', st') ∧ rest = y :: zs') → Ts K cl p cs (σ.set j (some v)) H' fun b H3 => if b = true then Tx K cl p ie (σ.set j (some v)) H3 fun y H4 => ∃ acc, H4 Dl = some (.lst acc) ∧ acc.length < sizeLine ∧ ∃ B2, (Ex B1 B2 ∧ Ex B2 (upd H4 Dl (.lst (acc ++ [y]))) ∧ Ex B B2 ∧ ∃ sti acc' zs rest, Rel K p sti B2 M F env σ (upd H4 Dl (.lst (acc ++ [y]))) ∧ (upd H4 Dl (.lst (acc ++ [y]))) Dl = some (.lst acc') ∧ RpA K B2 acc' zs ∧ Fr B2 M F p Dl ∧ zs.length ≤ n + 1 ∧ lcG (lcF cl j cs ie env) (dz.drop (n + 1)) sti = some (rest, st') ∧ zs ++ rest = ds) else ∃ B2, (Ex B1 B2 ∧ Ex B2 H3 ∧ Ex B B2 ∧ ∃ sti acc zs rest, Rel K p sti B2 M F env σ H3 ∧ H3 Dl = some (.lst acc) ∧ RpA K B2 acc zs ∧ Fr B2 M F p Dl ∧ zs.length ≤ n + 1 ∧ lcG (lcF cl j cs ie env) (dz.drop (n + 1)) sti = some (rest, st') ∧ zs ++ rest = ds) := fun b st2 e6 h0 h1 => by
      refine ⟨sti, B', upd M Dl (.lst acc), F, env.set j (.im d), b, st2, r3, e6, fun B3 H3 x5 r4 => ?_⟩
      cases b with
      | false =>
        refine iteF ⟨B3, x2.trans x5, r4.bs.b, x4.trans x5, st2, acc, zs, rest, r2.rest f.m x5 r4, (Rel.restFr f r4).2, racc.mono x5, (Rel.restFr f r4).1, by omega, h0 rfl, e5⟩
      | true =>
        obtain ⟨y, st3, zs', e7, e8, e9⟩ := h1 rfl
        refine iteT ⟨st2, B3, upd M Dl (.lst acc), F, env.set j (.im d), y, st3, r4, e7, fun w B4 H4 x6 r5 pw => ?_⟩
        have f4 := Rel.restFr f r5
        have r6 := (r2.rest f.m (x5.trans x6) r5).put (o := .lst (acc ++ [w])) f4.1 (.inr ⟨_, f4.2⟩)
        refine ⟨acc, f4.2, most_lt (by rw [racc.length]; omega), B4, (x2.trans x5).trans x6, r6.bs.b, (x4.trans x5).trans x6, st3, acc ++ [w], zs ++ [y], zs', r6, upd_same, (racc.mono (x5.trans x6)).append (.one pw), f4.1, by rw [List.length_append]; show zs.length + 1 ≤ n + 1; omega, e8, by rw [List.append_assoc, ← e5, e9]; rfl⟩
    rcases lcG_cons e4 with ⟨st3, e6, e7⟩ | ⟨y, st3, zs', e6, e7, e8⟩
    · unfold lcF at e6
      split at e6
      · split at e6 <;> cases e6
      · rename_i st2 e9
        cases e6
        exact key false _ e9 (fun _ => e7) (fun z => nomatch z)
      · cases e6
    · unfold lcF at e6
      split at e6
      · rename_i st2 e9
        split at e6
        · rename_i y2 st5 e10
          cases e6
          exact key true _ e9 (fun z => nomatch z) (fun _ => ⟨_, _, _, e10, e7, e8⟩)
        · cases e6
      · cases e6
      · cases e6
  · obtain ⟨x2, x3, x4, sti, acc, zs, rest, r2, hacc, racc, f, hz, e4, e5⟩ := q
    rw [List.drop_length] at e4
    unfold lcG at e4
    cases e4
    rw [List.append_nil] at e5
    subst e5
    exact k Dl acc B' H' x4 f.b f.m f.f f.p hacc racc r2
theorem lc_sf {elt iter : Expr} {ifs : List Expr} {scope : Scope} {x : Str} {px : Pos} {it : IT} {cs : IEs} {ie : IE} (j : Nat) (hi : SI Γ iter it) (hc : STs (Γ.blk scope) ifs cs) (he : SE (Γ.blk scope) elt ie) (hh : Γ.hot = false := by rfl)
    (hb : blkC Γ.N Γ.sc scope [(x, j)] = true := by rfl) (hj : Γ.N[j]? = some x := by rfl) (hlx : LcN scope Γ.sc x := by first | exact Or.inl rfl | exact Or.inr ⟨rfl, rfl⟩)
    (hs : ∀ env y, foldedSetIterable iter env y = pure y := by intro _ _; rfl) : SF Γ (.ListComp elt [⟨.Name x px, iter, ifs, 0⟩] scope pos) (.lc j it cs ie) := fun X p o => by
  refine PE_weak (pe_lc (own := [(x, j)]) (g := gName j) (tt := Ts Γ.K Γ.cl p cs) (te := Tx Γ.K Γ.cl p ie) (o.calm hh) (by rw [o.N]; exact o.nd) (hi X p _ o) (blkOk_by (by rw [o.N, o.sc]; exact hb))
    (fun s H C cl fp => ?_) (fun s H C cl fp => hc _ p (o.blk hh scope s H C cl fp)) (fun s H C cl fp => he _ p (o.blk hh scope s H C cl fp)) (hs _)) fun σ H Q q => ?_
  · have ob := o.blk hh scope s H C cl fp
    refine pg_name (show X.N.Nodup by rw [o.N]; exact o.nd) (show X.N[j]? = some x by rw [o.N]; exact hj) (show Loc _ x from hlx.loc ob.sc) ?_
    exact hlx.fn ob.sc
  · exact lc_read q
theorem lc_se {elt iter : Expr} {ifs : List Expr} {scope : Scope} {x : Str} {px : Pos} {it : IT} {cs : IEs} {ie : IE} (j : Nat) (hi : SI Γ iter it) (hc : STs (Γ.blk scope) ifs cs) (he : SE (Γ.blk scope) elt ie) (hh : Γ.hot = false := by rfl)
    (hb : blkC Γ.N Γ.sc scope [(x, j)] = true := by rfl) (hj : Γ.N[j]? = some x := by rfl) (hlx : LcN scope Γ.sc x := by first | exact Or.inl rfl | exact Or.inr ⟨rfl, rfl⟩)
    (hs : ∀ env y, foldedSetIterable iter env y = pure y := by intro _ _; rfl) : SE Γ (.ListComp elt [⟨.Name x px, iter, ifs, 0⟩] scope pos) (.lc j it cs ie) := (lc_sf j hi hc he hh hb hj hlx hs).se fun _ _ _ _ _ h => by
  obtain ⟨_, _, ys, _, _, _, e⟩ := ev_lc h
  exact ⟨ys, e⟩
end
end Ip

set_option Elab.async false
set_option linter.all false
set_option maxRecDepth 100000
set_option maxHeartbeats 4000000
namespace Ip
open PySem L2
mutual
theorem Rp.noL {K : PySem.W.Frag} {B B' : Hp} (e : ∀ a o, B a = some o → B' a = some o ∨ ∃ xs, o = .lst xs) : ∀ {d : D} {v : V}, noLst d = true → Rp K B v d → Rp K B' v d
  | _, _, _, .non => .non
  | _, _, _, .bl b => .bl b
  | _, _, _, .int i => .int i
  | _, _, _, .str x => .str x
  | _, _, n, .lst _ _ => by cases n
  | _, _, n, .tup h r => .tup (by
      rcases h with (h | ⟨o, h⟩) | h
      · rcases e _ _ h with g | ⟨_, g⟩
        · exact .inl (.inl g)
        · cases g
      · rcases e _ _ h with g | ⟨_, g⟩
        · exact .inl (.inr ⟨o, g⟩)
        · cases g
      · exact .inr h) (RpA.noL e n r)
  | _, _, n, .obj o h r => .obj o (by
      rcases e _ _ h with g | ⟨_, g⟩
      · exact g
      · cases g) (RpF.noL e n r)
  | _, _, n, .dctK _ _ => by cases n
  | _, _, n, .dctT _ _ => by cases n
theorem RpF.noL {K : PySem.W.Frag} {B B' : Hp} (e : ∀ a o, B a = some o → B' a = some o ∨ ∃ xs, o = .lst xs) : ∀ {ds : List (D × D)} {fs : List (Str × V)}, noLstP ds = true → RpF K B fs ds → RpF K B' fs ds
  | _, _, _, .nil => .nil
  | _, _, n, .cons h r => by
    unfold noLstP at n
    obtain ⟨n1, n2⟩ := Bool.and_eq_true_iff.mp n
    exact .cons (Rp.noL e n1 h) (RpF.noL e n2 r)
theorem RpA.noL {K : PySem.W.Frag} {B B' : Hp} (e : ∀ a o, B a = some o → B' a = some o ∨ ∃ xs, o = .lst xs) : ∀ {ds : List D} {vs : List V}, noLsts ds = true → RpA K B vs ds → RpA K B' vs ds
  | _, _, _, .nil => .nil
  | _, _, n, .cons h r => by
    unfold noLsts at n
    obtain ⟨n1, n2⟩ := Bool.and_eq_true_iff.mp n
    exact .cons (Rp.noL e n1 h) (RpA.noL e n2 r)
end
section
variable {K : PySem.W.Frag} {p : Pa} {st st' : Pl} {B B' M F : Hp} {env env' : List Sl} {σ σ' : L2.St} {H H' : Hp} {a : Addr} {o : HO}
/-- a new list among the own ones, kept by a name -/
theorem Rel.setOw (r : Rel K p st B M F env σ H) {xs : List V} {ds : List D} (f : Fr B M F p a) (ha : H a = some (.lst xs)) (rx : RpA K B xs ds) (j : Nat) (hio : ∀ c, p.io ≠ some (j, c)) : Rel K p st B (upd M a (.lst xs)) F (env.set j (.ow ds)) (σ.set j (some (.ref a))) H where
  bs := r.bs
  m := (r.take f ha).m
  md := (r.take f ha).md
  mc := (r.take f ha).mc
  mt := (r.take f ha).mt
  en := {
    len := by rw [List.length_set, List.length_set]; exact r.en.len
    at_ := fun i s hi => by
      by_cases e : j = i
      · subst e
        have hl : j < env.length := by
          have := (List.getElem?_eq_some_iff.mp hi).1
          rw [List.length_set] at this
          exact this
        rw [List.getElem?_set_self hl] at hi
        cases hi
        exact ⟨some (.ref a), List.getElem?_set_self (by rw [← r.en.len]; exact hl), xs, upd_same, rx⟩
      · rw [List.getElem?_set_ne e] at hi
        obtain ⟨w, h1, h2⟩ := r.en.at_ i s hi
        exact ⟨w, by rw [List.getElem?_set_ne e]; exact h1, h2.up f.m⟩
    ap := r.en.apNew f.m j
    io := fun i c es hp hi => by
      by_cases e : j = i
      · subst e
        exact absurd hp (hio c)
      · rw [List.getElem?_set_ne e] at hi ⊢
        exact r.en.io i c es hp hi }
/-- an own list grows -/
theorem Rel.grow (r : Rel K p st B M F env σ H) {i : Nat} {xs ys : List V} {ds es : List D} (he : env[i]? = some (.ow ds)) (hs : σ[i]? = some (some (.ref a))) (hm : M a = some (.lst xs)) (ry : RpA K B ys es) :
    Rel K p st B (upd M a (.lst ys)) F (env.set i (.ow es)) σ (upd H a (.lst ys)) where
  bs := by
    obtain ⟨h1, h2, h3⟩ := r.md a _ hm
    have hc : ∀ k c, p.ca k = some c → c ≠ a := fun k c hk e => by
      have := r.mc k c hk
      rw [e, hm] at this
      cases this
    refine ⟨r.bs.b.right h1, r.bs.f.right h2, r.bs.d, r.bs.pf, r.bs.pb, ?_, r.bs.ce.up (fun k c hk => ⟨(r.bs.ce.b k c hk).1, (r.bs.ce.b k c hk).2.1⟩) (fun k c hk => by rw [upd_ne (hc k c hk)]) r.bs.ce.tn fun z => tabs_lst z (r.m _ _ hm)⟩
    obtain ⟨h4, h5⟩ := r.bs.pl
    exact ⟨by rw [upd_ne (fun e => h3 e.symm)]; exact h4, h5⟩
  m := r.m.up
  md := fun b u h => by
    by_cases hb : b = a
    · subst hb
      exact r.md b _ hm
    · rw [upd_ne hb] at h
      exact r.md b u h
  mc := fun k c hk => by
    rw [upd_ne (fun e => by
      have := r.mc k c hk
      rw [e, hm] at this
      cases this)]
    exact r.mc k c hk
  mt := fun q hq => by
    rw [upd_ne (r.mtn hm q hq)]
    exact r.mt q hq
  en := {
    len := by rw [List.length_set]; exact r.en.len
    at_ := fun k s hk => by
      by_cases e : i = k
      · subst e
        have hl : i < env.length := (List.getElem?_eq_some_iff.mp he).1
        rw [List.getElem?_set_self hl] at hk
        cases hk
        exact ⟨_, hs, ys, upd_same, ry⟩
      · rw [List.getElem?_set_ne e] at hk
        obtain ⟨w, h1, h2⟩ := r.en.at_ k s hk
        refine ⟨w, h1, ?_⟩
        cases s with
        | ow fs =>
          cases w with
          | none => exact h2
          | some v =>
            cases v with
            | ref b =>
              obtain ⟨zs, h3, h4⟩ := h2
              have hba : b ≠ a := fun z => by
                subst z
                exact e (r.en.apOw he hk hs h1)
              exact ⟨zs, by rw [upd_ne hba]; exact h3, h4⟩
            | _ => exact h2
        | no => exact h2
        | im d =>
          cases w with
          | none => exact h2
          | some v => exact h2
        | pl =>
          cases w with
          | none => exact h2
          | some v => cases v <;> exact h2
        | ce k =>
          cases w with
          | none => exact h2
          | some v => cases v <;> exact h2
        | er c d => exact h2
        | dk t => exact h2
        | sf => exact h2
        | od t tab =>
          obtain ⟨b, u, g1, g2, g3⟩ := h2
          subst g1
          refine ⟨b, u, rfl, ?_, g3⟩
          rw [upd_ne (fun z => e (r.en.ap i k _ _ a rfl rfl he hk hs (by rw [h1, z])))]
          exact g2
    ap := r.en.ap.less fun k s hs hk => by
        by_cases e : i = k
        · subst e
          exact ⟨_, rfl, he⟩
        · rw [List.getElem?_set_ne e] at hk
          exact ⟨_, hs, hk⟩
    io := fun k c es' hp hk => by
      by_cases e : i = k
      · subst e
        exact r.en.io i c ds hp he
      · rw [List.getElem?_set_ne e] at hk
        exact r.en.io k c es' hp hk }
/-- an own list becomes known for good -/
theorem Rel.freeze2 (r : Rel K p st B M F env σ H) (i : Nat) : ∃ B' M', Ex B B' ∧ (∀ b u, M b = some u → M' b = some u ∨ (B' b = some u ∧ ∃ xs, u = .lst xs)) ∧ Rel K p st B' M' F (env.modify i frzS) σ H := by
  cases he : env[i]? with
  | none =>
    have e : env.modify i frzS = env := by
      apply List.ext_getElem?
      intro k
      rw [List.getElem?_modify]
      by_cases e : i = k
      · subst e
        rw [he]
        simp
      · simp [e]
    rw [e]
    exact ⟨B, M, Ex.refl B, fun _ _ h => .inl h, r⟩
  | some s =>
    have same : (∀ ds, s ≠ .ow ds) → env.modify i frzS = env := fun h => by
      apply List.ext_getElem?
      intro k
      rw [List.getElem?_modify]
      by_cases e : i = k
      · subst e
        rw [he]
        cases s with
        | ow ds => exact absurd rfl (h ds)
        | _ => simp [frzS]
      · simp [e]
    cases s with
    | ow ds =>
      obtain ⟨w, h1, h2⟩ := r.en.at_ i _ he
      cases w with
      | none => exact h2.elim
      | some v =>
        cases v with
        | ref a =>
          obtain ⟨xs, h3, h4⟩ := h2
          obtain ⟨g1, g2, g3⟩ := r.md a _ h3
          have x : Ex B (upd B a (.lst xs)) := Ex.new g1
          have hc : ∀ k c, p.ca k = some c → c ≠ a := fun k c hk e => by
            have := r.mc k c hk
            rw [e, h3] at this
            cases this
          refine ⟨upd B a (.lst xs), fun b => if b = a then none else M b, x, fun b u h => ?_, ?_, ?_, ?_, fun k c hk => by simp only [if_neg (hc k c hk)]; exact r.mc k c hk, fun q hq => by simp only [if_neg (r.mtn h3 q hq)]; exact r.mt q hq, ?_⟩
          · by_cases hb : b = a
            · subst hb
              rw [h3] at h
              cases h
              exact .inr ⟨upd_same, _, rfl⟩
            · exact .inl (by simp only [if_neg hb]; exact h)
          · refine ⟨fun c u e => ?_, r.bs.f, fun c u e => ?_, r.bs.pf, ?_, ?_, r.bs.ce.up (fun k c hk => ⟨by rw [upd_ne (hc k c hk)]; exact (r.bs.ce.b k c hk).1, (r.bs.ce.b k c hk).2.1⟩) (fun _ _ _ => rfl) (fun q hq => ⟨by rw [upd_ne (r.mtn h3 q hq)]; exact (r.bs.ce.tn q hq).1, (r.bs.ce.tn q hq).2⟩) fun z => z⟩
            · by_cases hc : c = a
              · subst hc
                rw [upd_same] at e
                rw [← e]
                exact r.m _ _ h3
              · rw [upd_ne hc] at e
                exact r.bs.b c u e
            · rw [upd_ne (ne_of_none e g2)]
              exact r.bs.d c u e
            · rw [upd_ne (fun e => g3 e.symm)]
              exact r.bs.pb
            · obtain ⟨q1, q2⟩ := r.bs.pl
              exact ⟨q1, x _ _ q2⟩
          · intro b u h
            by_cases hb : b = a
            · simp [hb] at h
            · simp only [if_neg hb] at h
              exact r.m b u h
          · intro b u h
            by_cases hb : b = a
            · simp [hb] at h
            · simp only [if_neg hb] at h
              rw [upd_ne hb]
              exact r.md b u h
          · refine ⟨by rw [List.length_modify]; exact r.en.len, fun k s hk => ?_, r.en.ap.less fun k s hs hk => ?_, fun k c es hp hk => r.en.io k c es hp (by
                rw [List.getElem?_modify] at hk
                by_cases e : i = k
                · subst e
                  rw [he] at hk
                  simp [frzS] at hk
                · simpa [e] using hk)⟩
            · rw [List.getElem?_modify] at hk
              by_cases e : i = k
              · subst e
                rw [he] at hk
                simp [frzS] at hk
                subst hk
                exact ⟨_, h1, .lst upd_same (h4.mono x)⟩
              · simp [e] at hk
                obtain ⟨w, q1, q2⟩ := r.en.at_ k s hk
                refine ⟨w, q1, ?_⟩
                cases s with
                | ow fs =>
                  cases w with
                  | none => exact q2
                  | some v =>
                    cases v with
                    | ref b =>
                      obtain ⟨zs, q3, q4⟩ := q2
                      have hba : b ≠ a := fun z => by
                        subst z
                        exact e (r.en.apOw he hk h1 q1)
                      exact ⟨zs, by simp only [if_neg hba]; exact q3, q4.mono x⟩
                    | _ => exact q2
                | no => exact q2
                | im d =>
                  cases w with
                  | none => exact q2
                  | some v => exact Rp.mono x q2
                | pl =>
                  cases w with
                  | none => exact q2
                  | some v => cases v <;> exact q2
                | ce k =>
                  cases w with
                  | none => exact q2
                  | some v => cases v <;> exact q2
                | er c d =>
                  obtain ⟨a1, dd, f, u, z1, z2, z3, z4⟩ := q2
                  exact ⟨a1, dd, f, u, z1, z2, x _ _ z3, z4.mono x⟩
                | dk t => exact SlR.mono (s := .dk t) x q2
                | sf => exact q2
                | od t tab =>
                  obtain ⟨b, u, z1, z2, z3⟩ := q2
                  subst z1
                  have hba : b ≠ a := fun z => e (r.en.ap i k _ _ a rfl rfl he hk h1 (by rw [q1, z]))
                  exact ⟨b, u, rfl, by simp only [if_neg hba]; exact z2, z3.mono x⟩
            · rw [List.getElem?_modify] at hk
              by_cases e : i = k
              · subst e
                rw [he] at hk
                simp [frzS] at hk
                subst hk
                cases hs
              · exact ⟨s, hs, by simpa [e] using hk⟩
        | _ => exact h2.elim
    | no => rw [same (fun _ z => nomatch z)]; exact ⟨B, M, Ex.refl B, fun _ _ h => .inl h, r⟩
    | im d => rw [same (fun _ z => nomatch z)]; exact ⟨B, M, Ex.refl B, fun _ _ h => .inl h, r⟩
    | er c d => rw [same (fun _ z => nomatch z)]; exact ⟨B, M, Ex.refl B, fun _ _ h => .inl h, r⟩
    | dk t => rw [same (fun _ z => nomatch z)]; exact ⟨B, M, Ex.refl B, fun _ _ h => .inl h, r⟩
    | sf => rw [same (fun _ z => nomatch z)]; exact ⟨B, M, Ex.refl B, fun _ _ h => .inl h, r⟩
    | od t tab => rw [same (fun _ z => nomatch z)]; exact ⟨B, M, Ex.refl B, fun _ _ h => .inl h, r⟩
    | pl => rw [same (fun _ z => nomatch z)]; exact ⟨B, M, Ex.refl B, fun _ _ h => .inl h, r⟩
    | ce k => rw [same (fun _ z => nomatch z)]; exact ⟨B, M, Ex.refl B, fun _ _ h => .inl h, r⟩
theorem Rel.freeze (r : Rel K p st B M F env σ H) (i : Nat) : ∃ B' M', Ex B B' ∧ (∀ b u, M b = some u → M' b = some u ∨ B' b = some u) ∧ Rel K p st B' M' F (env.modify i frzS) σ H := by
  obtain ⟨B', M', x, y, r'⟩ := r.freeze2 i
  exact ⟨B', M', x, fun b u h => (y b u h).imp id And.left, r'⟩
theorem Rel.freezeAll2 : ∀ (is : List Nat) {B M : Hp} {env : List Sl}, Rel K p st B M F env σ H → ∃ B' M', Ex B B' ∧ (∀ b u, M b = some u → M' b = some u ∨ (B' b = some u ∧ ∃ xs, u = .lst xs)) ∧ Rel K p st B' M' F (frzE env is) σ H
  | [], B, M, env, r => ⟨B, M, Ex.refl B, fun _ _ h => .inl h, r⟩
  | i :: is, B, M, env, r => by
    obtain ⟨B1, M1, x1, y1, r1⟩ := r.freeze2 i
    obtain ⟨B2, M2, x2, y2, r2⟩ := Rel.freezeAll2 is r1
    refine ⟨B2, M2, x1.trans x2, fun b u h => ?_, r2⟩
    rcases y1 b u h with h | h
    · exact y2 b u h
    · exact .inr ⟨x2 b u h.1, h.2⟩
theorem Rel.freezeAll : ∀ (is : List Nat) {B M : Hp} {env : List Sl}, Rel K p st B M F env σ H → ∃ B' M', Ex B B' ∧ (∀ b u, M b = some u → M' b = some u ∨ B' b = some u) ∧ Rel K p st B' M' F (frzE env is) σ H
  | [], B, M, env, r => ⟨B, M, Ex.refl B, fun _ _ h => .inl h, r⟩
  | i :: is, B, M, env, r => by
    obtain ⟨B1, M1, x1, y1, r1⟩ := r.freeze i
    obtain ⟨B2, M2, x2, y2, r2⟩ := Rel.freezeAll is r1
    refine ⟨B2, M2, x1.trans x2, fun b u h => ?_, r2⟩
    rcases y1 b u h with h | h
    · exact y2 b u h
    · exact .inr (x2 b u h)
/-- lists that were lent out come back, if nothing holds them -/
theorem lent_se {Γ : Gam} {e : Expr} {i : IE} (is : List Nat) (h : SE Γ e i) : SE Γ e (.lent is i) := fun X p o => PE_weak (h X p o) fun σ H Q q => by
  obtain ⟨st, B, M, F, env, d, st', r, he, kk⟩ := q
  obtain ⟨B1, M1, x1, y1, r1⟩ := r.freezeAll is
  unfold ev at he
  split at he
  · rename_i y st1 e1
    split at he
    · rename_i hf
      cases he
      refine ⟨st, B1, M1, F, _, d, st', r1, e1, fun v B' H' x r' pv => ?_⟩
      have x' : Ex B (fun b => match M b with | some _ => none | none => B' b) := fun b u hb => by
        have hm : M b = none := by
          cases hm : M b with
          | none => rfl
          | some w =>
            rw [(r.md b w hm).1] at hb
            cases hb
        show (match M b with | some _ => none | none => B' b) = _
        rw [hm]
        exact x b u (x1 b u hb)
      have le : ∀ b u, (match M b with | some _ => none | none => B' b) = some u → B' b = some u := fun b u hb => by
        cases hm : M b with
        | none =>
          rw [hm] at hb
          exact hb
        | some w =>
          rw [hm] at hb
          cases hb
      refine kk v _ H' x' ?_ ?_
      · refine ⟨⟨fun b u hb => r'.bs.b b u (le b u hb), r'.bs.f, fun b u hb => ?_, r'.bs.pf, ?_, ⟨r'.bs.pl.1, ?_⟩, r'.bs.ce.up (fun k c hk => ⟨by rw [r.mc k c hk]; exact (r'.bs.ce.b k c hk).1, (r'.bs.ce.b k c hk).2.1⟩) (fun _ _ _ => rfl) (fun q hq => ⟨by rw [r.mt q hq]; exact (r'.bs.ce.tn q hq).1, (r'.bs.ce.tn q hq).2⟩) fun z => z⟩, fun b u hb => ?_, fun b u hb => ⟨?_, (r.md b u hb).2⟩, r.mc, r.mt, r.en.mono x'⟩
        · show (match M b with | some _ => none | none => B' b) = none
          have := r'.bs.d b u hb
          cases M b with
          | none => exact this
          | some w => rfl
        · show (match M p with | some _ => none | none => B' p) = none
          have := r'.bs.pb
          cases M p with
          | none => exact this
          | some w => rfl
        · have hq : M p.q = none := by
            cases hm : M p.q with
            | none => rfl
            | some w =>
              have h1 := r.bs.pl.2
              rw [(r.md _ w hm).1] at h1
              cases h1
          show (match M p.q with | some _ => none | none => B' p.q) = _
          rw [hq]
          exact r'.bs.pl.2
        · rcases y1 b u hb with h1 | h1
          · exact r'.m b u h1
          · exact r'.bs.b b u (x b u h1)
        · show (match M b with | some _ => none | none => B' b) = none
          rw [hb]
      · cases d with
        | none => cases pv; exact .non
        | bool b => cases pv; exact .bl b
        | int i => cases pv; exact .int i
        | str s => cases pv; exact .str s
        | _ => exact absurd (show false = true from hf) (by decide)
    · cases he
  · cases he
theorem lento_se {Γ : Gam} {e : Expr} {i : IE} (is : List Nat) (h : SE Γ e i) : SE Γ e (.lento is i) := fun X p o => PE_weak (h X p o) fun σ H Q q => by
  obtain ⟨st, B, M, F, env, d, st', r, he, kk⟩ := q
  obtain ⟨B1, M1, x1, y1, r1⟩ := r.freezeAll2 is
  unfold ev at he
  split at he
  · rename_i y st1 e1
    split at he
    · rename_i hf
      cases he
      refine ⟨st, B1, M1, F, _, d, st', r1, e1, fun v B' H' x r' pv => ?_⟩
      have x' : Ex B (fun b => match M b with | some _ => none | none => B' b) := fun b u hb => by
        have hm : M b = none := by
          cases hm : M b with
          | none => rfl
          | some w =>
            rw [(r.md b w hm).1] at hb
            cases hb
        show (match M b with | some _ => none | none => B' b) = _
        rw [hm]
        exact x b u (x1 b u hb)
      have le : ∀ b u, (match M b with | some _ => none | none => B' b) = some u → B' b = some u := fun b u hb => by
        cases hm : M b with
        | none =>
          rw [hm] at hb
          exact hb
        | some w =>
          rw [hm] at hb
          cases hb
      refine kk v _ H' x' ?_ ?_
      · refine ⟨⟨fun b u hb => r'.bs.b b u (le b u hb), r'.bs.f, fun b u hb => ?_, r'.bs.pf, ?_, ⟨r'.bs.pl.1, ?_⟩, r'.bs.ce.up (fun k c hk => ⟨by rw [r.mc k c hk]; exact (r'.bs.ce.b k c hk).1, (r'.bs.ce.b k c hk).2.1⟩) (fun _ _ _ => rfl) (fun q hq => ⟨by rw [r.mt q hq]; exact (r'.bs.ce.tn q hq).1, (r'.bs.ce.tn q hq).2⟩) fun z => z⟩, fun b u hb => ?_, fun b u hb => ⟨?_, (r.md b u hb).2⟩, r.mc, r.mt, r.en.mono x'⟩
        · show (match M b with | some _ => none | none => B' b) = none
          have := r'.bs.d b u hb
          cases M b with
          | none => exact this
          | some w => rfl
        · show (match M p with | some _ => none | none => B' p) = none
          have := r'.bs.pb
          cases M p with
          | none => exact this
          | some w => rfl
        · have hq : M p.q = none := by
            cases hm : M p.q with
            | none => rfl
            | some w =>
              have h1 := r.bs.pl.2
              rw [(r.md _ w hm).1] at h1
              cases h1
          show (match M p.q with | some _ => none | none => B' p.q) = _
          rw [hq]
          exact r'.bs.pl.2
        · rcases y1 b u hb with h1 | h1
          · exact r'.m b u h1
          · exact r'.bs.b b u (x b u h1.1)
        · show (match M b with | some _ => none | none => B' b) = none
          rw [hb]
      · refine Rp.noL (fun b o hb => ?_) hf pv
        cases hm : M b with
        | none =>
          exact .inl hb
        | some w =>
          rcases y1 b w hm with h1 | h1
          · have := (r'.md b w h1).1
            rw [hb] at this
            cases this
          · have e := x b w h1.1
            rw [hb] at e
            cases e
            exact .inr h1.2
    · cases he
  · cases he
end
end Ip

set_option Elab.async false
set_option linter.all false
set_option maxRecDepth 100000
set_option maxHeartbeats 4000000

set_option Elab.async false
set_option linter.all false
set_option maxRecDepth 100000
set_option maxHeartbeats 4000000
namespace Ip
open PySem L2
structure Oks (Γ : Gam) (X : Cx) (p : Pa) : Prop extends Okx Γ X p where
  own : PassesOwn (model X.prog X.w) X.A X.env X.xe
  stk : X.stack = X.env :: X.outer
  frm : X.env.frame = some X.env.locals
  fnx : ∀ x, X.fn x = true
  io : p.io.map Prod.fst = Γ.io
  fr : p.fr = Γ.fr
  fi : Γ.hot = false → ∀ f ∈ Γ.fi, ∃ fa fd ps k, FnOk X.prog X.w X.K X.mg X.base (L2N.CX X.prog X.w) k fa fd ps (spI Γ.K Γ.cl f) ∧ X.mg f = some (.ref fa) ∧ PySem.W.keepIn X.K (.ref fa) = true ∧ Binds X.K fd ps [] ∧ Room k X.A
  ff : Γ.hot = false → ∀ f ∈ Γ.ff, ∃ fa fd ps k, FnOk X.prog X.w X.K X.mg X.base (L2N.CX X.prog X.w) k fa fd ps (spR Γ.K Γ.cl f) ∧ X.mg f = some (.ref fa) ∧ PySem.W.keepIn X.K (.ref fa) = true ∧ Binds X.K fd ps [] ∧ Room k X.A
theorem Oks.noIo {Γ : Gam} {X : Cx} {p : Pa} (o : Oks Γ X p) {j : Nat} (h : (Γ.io == some j) = false) : ∀ c, p.io ≠ some (j, c) := fun c e => by
  have z := o.io
  rw [e] at z
  rw [← z] at h
  simp at h
/-- what is wanted behind a statement, by what it came to -/
def OutK (K : PySem.W.Frag) (p : Pa) (B F : Hp) (D : Ends) : Out → Prop
  | .nx env st => ∀ B' M σ H, Ex B B' → Rel K p st B' M F env σ H → D.nx σ H
  | .rt d st => ∀ v B' H, Ex B B' → Bs p st B' F H → RtV K p B' F H v d → D.rt v H
  | .bk env st => ∀ B' M σ H, Ex B B' → Rel K p st B' M F env σ H → D.bk σ H
  | .ct env st => ∀ B' M σ H, Ex B B' → Rel K p st B' M F env σ H → D.ct σ H
theorem OutK.mono {K : PySem.W.Frag} {p : Pa} {B B' F : Hp} {D : Ends} (x : Ex B B') : ∀ {o : Out}, OutK K p B F D o → OutK K p B' F D o
  | .nx _ _, h => fun B2 M σ H x2 r => h B2 M σ H (x.trans x2) r
  | .rt _ _, h => fun v B2 H x2 r pv => h v B2 H (x.trans x2) r pv
  | .bk _ _, h => fun B2 M σ H x2 r => h B2 M σ H (x.trans x2) r
  | .ct _ _, h => fun B2 M σ H x2 r => h B2 M σ H (x.trans x2) r
def TS1 (K : PySem.W.Frag) (cl : Cl) (p : Pa) (s : IS) : TS := fun D σ H => ∃ st B M F env o, Rel K p st B M F env σ H ∧ evS cl s env st = some o ∧ OutK K p B F D o
def TSs (K : PySem.W.Frag) (cl : Cl) (p : Pa) (s : ISs) : TS := fun D σ H => ∃ st B M F env o, Rel K p st B M F env σ H ∧ evSs cl s env st = some o ∧ OutK K p B F D o
def SS (Γ : Gam) (s : Stmt) (i : IS) : Prop := ∀ X p, Oks Γ X p → PS X s (TS1 Γ.K Γ.cl p i)
def SSs (Γ : Gam) (s : List Stmt) (i : ISs) : Prop := ∀ X p, Oks Γ X p → PSs X s (TSs Γ.K Γ.cl p i)
section
variable {Γ : Gam} {e a b c : Expr} {es rest : List Expr} {ia ib ic i : IE} {ies : IEs} {pos p0 p1 p2 : Pos} {x : Str} {s : Stmt} {ss : List Stmt} {is : IS} {iss : ISs}
theorem sss_nil : SSs Γ [] .nil := fun X p o => PSs_weak pss_nil fun D σ H q => by
  obtain ⟨st, B, M, F, env, out, r, he, k⟩ := q
  unfold evSs at he
  cases he
  exact k B M σ H (Ex.refl B) r
theorem sss_cons (h : SS Γ s is) (hr : SSs Γ ss iss) : SSs Γ (s :: ss) (.cons is iss) := fun X p o => PSs_weak (pss_cons (h X p o) (hr X p o)) fun D σ H q => by
  obtain ⟨st, B, M, F, env, out, r, he, k⟩ := q
  unfold evSs at he
  split at he
  · rename_i env1 st1 e1
    exact ⟨st, B, M, F, env, _, r, e1, fun B' M' σ' H' x r' => ⟨st1, B', M', F, env1, out, r', he, k.mono x⟩⟩
  · rename_i o1 hn e1
    cases he
    refine ⟨st, B, M, F, env, _, r, e1, ?_⟩
    cases out with
    | nx env1 st1 => exact (hn env1 st1 rfl).elim
    | rt d st1 => exact k
    | bk env1 st1 => exact k
    | ct env1 st1 => exact k
  · cases he
theorem ss_set (j : Nat) (h : SE Γ e i) (hN : Γ.N[j]? = some x := by rfl) (hl : Loc Γ.sc x := by first | exact Or.inl rfl | exact Or.inr rfl) (hs : ∀ env, swapsWith e (some (.Name x p0)) pos.line env = pure false := by intro _; rfl) : SS Γ (.Assign [.Name x p0] e pos) (.set j i) := fun X p o =>
  PS_weak (ps_set (i := j) (by rw [o.N]; exact o.nd) (by rw [o.N]; exact hN) (by rw [o.sc]; exact hl) (h X p o.toOkx) (hs _) (.inl (o.fnx x))) fun D σ H q => by
    obtain ⟨st, B, M, F, env, out, r, he, k⟩ := q
    unfold evS at he
    split at he
    · rename_i d st1 e1
      cases he
      exact ⟨st, B, M, F, env, d, st1, r, e1, fun v B' H' x r' pv => k B' M _ H' x (r'.set pv j)⟩
    · cases he
theorem ss_own (j : Nat) (h : SF Γ e i) (hio : (Γ.io == some j) = false := by rfl) (hN : Γ.N[j]? = some x := by rfl) (hl : Loc Γ.sc x := by first | exact Or.inl rfl | exact Or.inr rfl) (hs : ∀ env, swapsWith e (some (.Name x p0)) pos.line env = pure false := by intro _; rfl) : SS Γ (.Assign [.Name x p0] e pos) (.own j i) := fun X p o =>
  PS_weak (ps_set (i := j) (by rw [o.N]; exact o.nd) (by rw [o.N]; exact hN) (by rw [o.sc]; exact hl) (h X p o.toOkx) (hs _) (.inl (o.fnx x))) fun D σ H q => by
    obtain ⟨st, B, M, F, env, out, r, he, k⟩ := q
    unfold evS at he
    split at he
    · rename_i ds st1 e1
      cases he
      exact ⟨st, B, M, F, env, ds, st1, r, e1, fun a xs B' H' x h1 h2 h3 h4 h5 h6 r' => k B' _ _ H' x (r'.setOw ⟨h1, h2, h3, h4⟩ h5 h6 j (o.noIo hio))⟩
    · cases he
theorem ss_app (n : Nat) (h : SE Γ e i) (hN : Γ.N[n]? = some x := by rfl) (hv : Vis Γ.sc x := by first | exact Or.inl rfl | exact Or.inr (Or.inl rfl) | exact Or.inr (Or.inr rfl)) (hd : (x == ("__debug__" : Str)) = false := by decide) (hcd : (x == ("__classdict__" : Str)) = false := by decide)
    (hbase : ∀ env, attributeBase (.Name x p0) "append" env (eval (.Name x p0) env) = eval (.Name x p0) env := by intro _; rfl)
    (hfew : ∀ env, ((backTo p2 (starEach [e] env)).all (fun x => !x.1) && (backToKw p2 (keywordEach [] env)).all (fun x => x.1.isSome) && decide (([e] : List Expr).length + ([] : List Keyword).length + (if ([] : List Keyword).isEmpty then 0 else 1) < 30)) = true := by intro _; rfl)
    (hline : (p1.endLine == p2.line) = true := by rfl) (hs : ∀ env, starEach [e] env = (false, eval e env) :: starEach [] env := by intro _; rfl) (hsw : ∀ env, swapsWith (.Call (.Attribute (.Name x p0) "append" p1) [e] [] p2) none pos.line env = pure false := by intro _; rfl) :
    SS Γ (.Expr (.Call (.Attribute (.Name x p0) "append" p1) [e] [] p2) pos) (.app n i) := fun X p o =>
  PS_weak (ps_expr (pe_bm PySem.F.plainAttrs_list PySem.F.slot_list_append PySem.F.type_list_append mt_append (pe_var (i := n) (by rw [o.N]; exact hN) (by rw [o.sc]; exact hv) hd hcd) ((sa_cons h sa_nil hs) X p o.toOkx) (hbase _) (hfew _) hline (hs _) rfl) (hsw _)) fun D σ H q => by
    obtain ⟨st, B, M, F, env, out, r, he, k⟩ := q
    unfold evS at he
    split at he
    · rename_i d st1 e1
      split at he
      · rename_i ds e2
        obtain ⟨hl, he⟩ := ite_some he
        subst he
        obtain ⟨w, h1, h2⟩ := r.en.at_ n _ e2
        cases w with
        | none => exact h2.elim
        | some v =>
          cases v with
          | ref a =>
            obtain ⟨xs, h3, h4⟩ := h2
            refine ⟨_, h1, .inl ⟨rfl, xs, Or.inl (Or.inl (r.m _ _ h3))⟩, st, B, M, F, env, [d], st1, r, by unfold ea; rw [e1]; rfl, fun vs B' H' x r' pv => ?_⟩
            match vs, pv with
            | [v], .cons pv .nil =>
              refine ⟨a, xs, v, rfl, rfl, r'.m _ _ h3, most_lt (by rw [h4.length]; exact hl), ?_⟩
              exact k B' _ σ _ x (r'.grow e2 h1 h3 ((h4.mono x).append (.one pv)))
          | _ => exact h2.elim
      · cases he
    · cases he
theorem ss_iff {sa sb : List Stmt} {xa xb : ISs} (hc : ST Γ c ic) (ha : SSs Γ sa xa) (hb : SSs Γ sb xb) : SS Γ (.If c sa sb pos) (.iff ic xa xb) := fun X p o => PS_weak (ps_if (hc X p o.toOkx) (ha X p o) (hb X p o)) fun D σ H q => by
  obtain ⟨st, B, M, F, env, out, r, he, k⟩ := q
  unfold evS at he
  split at he
  · rename_i st1 e1
    exact ⟨st, B, M, F, env, true, st1, r, e1, fun B' H' x r' => iteT ⟨st1, B', M, F, env, out, r', he, k.mono x⟩⟩
  · rename_i st1 e1
    exact ⟨st, B, M, F, env, false, st1, r, e1, fun B' H' x r' => iteF ⟨st1, B', M, F, env, out, r', he, k.mono x⟩⟩
  · cases he
theorem ss_ret (h : SE Γ e i) (hfr : Γ.fr = false := by rfl) : SS Γ (.Return (some e) pos) (.ret i) := fun X p o => PS_weak (ps_ret (h X p o.toOkx)) fun D σ H q => by
  obtain ⟨st, B, M, F, env, out, r, he, k⟩ := q
  unfold evS at he
  split at he
  · rename_i d st1 e1
    cases he
    exact ⟨st, B, M, F, env, d, st1, r, e1, fun v B' H' x r' pv => k v B' H' x r'.bs (by rw [RtV.f (o.fr.trans hfr)]; exact pv)⟩
  · cases he
theorem ss_frz (js : List Nat) (h : SS Γ s is) : SS Γ s (.frz js is) := fun X p o => PS_weak (h X p o) fun D σ H q => by
  obtain ⟨st, B, M, F, env, out, r, he, k⟩ := q
  unfold evS at he
  obtain ⟨B', M', x, _, r'⟩ := r.freezeAll js
  exact ⟨st, B', M', F, _, out, r', he, k.mono x⟩
def Tgt (K : PySem.W.Frag) (p : Pa) (j : Sg) : TG := fun v σ H Q => ∃ st B M F env d env', Rel K p st B M F env σ H ∧ Rp K B v d ∧ sgD j d env = some env' ∧ ∀ σ', Rel K p st B M F env' σ' H → Q σ' H
def SGt (Γ : Gam) (e : Expr) (j : Sg) : Prop := ∀ X p, Oks Γ X p → PG X e (Tgt Γ.K p j)
theorem PG_weak {X : Cx} {t t' : TG} (h : PG X e t) (w : ∀ v σ H Q, t' v σ H Q → t v σ H Q) : PG X e t' := ⟨fun pins s σ H v u Q I r q => h.run pins s σ H v u Q I r (w v σ H Q q)⟩
theorem PG_or {X : Cx} {t t' : TG} (h : PG X e t) (h' : PG X e t') : PG X e (fun v σ H Q => t v σ H Q ∨ t' v σ H Q) := ⟨fun pins s σ H v u Q I r q => by
  rcases q with q | q
  · exact h.run pins s σ H v u Q I r q
  · exact h'.run pins s σ H v u Q I r q⟩
theorem tg_one (j : Nat) (hN : Γ.N[j]? = some x := by rfl) (hl : Loc Γ.sc x := by first | exact Or.inl rfl | exact Or.inr rfl) : SGt Γ (.Name x p0) (.one j) := fun X p o =>
  PG_weak (pg_name (i := j) (by rw [o.N]; exact o.nd) (by rw [o.N]; exact hN) (by rw [o.sc]; exact hl) (.inl (o.fnx x))) fun v σ H Q q => by
    obtain ⟨st, B, M, F, env, d, env', r, pv, he, k⟩ := q
    cases he
    exact k _ (r.set pv j)
def gMany : List Nat → TGs
  | [] => gNil
  | j :: js => gCons (gName j) (gMany js)
def SGs (Γ : Gam) (es : List Expr) (js : List Nat) : Prop := ∀ X p, Oks Γ X p → PGs X es (gMany js)
theorem sgs_nil : SGs Γ [] [] := fun X p o => pgs_nil
theorem sgs_cons {js : List Nat} (j : Nat) (hr : SGs Γ es js) (hN : Γ.N[j]? = some x := by rfl) (hl : Loc Γ.sc x := by first | exact Or.inl rfl | exact Or.inr rfl)
    (hs : ∀ env, (assignEach (.Name x p0 :: es) env).map (·.2) = assign (.Name x p0) env :: (assignEach es env).map (·.2) := by intro _; rfl) : SGs Γ (.Name x p0 :: es) (j :: js) := fun X p o =>
  pgs_cons (pg_name (i := j) (by rw [o.N]; exact o.nd) (by rw [o.N]; exact hN) (by rw [o.sc]; exact hl) (.inl (o.fnx x))) (hr X p o) (hs _)
theorem many_go {K : PySem.W.Frag} {p : Pa} {st : Pl} {B M F : Hp} {H : Hp} : ∀ {js : List Nat} {ds : List D} {vs : List V} {env env' : List Sl} {σ : L2.St} {Q : L2.St → Hp → Prop}, Rel K p st B M F env σ H → RpA K B vs ds → setMany js ds env = some env' → (∀ σ', Rel K p st B M F env' σ' H → Q σ' H) → gMany js vs σ H Q
  | [], [], _, env, env', σ, Q, r, .nil, he, k => by
    cases he
    exact ⟨rfl, k σ r⟩
  | j :: js, d :: ds, _, env, env', σ, Q, r, .cons pv rv, he, k => ⟨_, _, rfl, many_go (r.set pv j) rv he k⟩
  | [], _ :: _, _, _, _, _, _, _, _, he, _ => by cases he
  | _ :: _, [], _, _, _, _, _, _, _, he, _ => by cases he
theorem setMany_len : ∀ {js : List Nat} {ds : List D} {env env' : List Sl}, setMany js ds env = some env' → ds.length = js.length
  | [], [], _, _, _ => rfl
  | j :: js, d :: ds, env, env', h => congrArg Nat.succ (setMany_len (js := js) (ds := ds) h)
  | [], _ :: _, _, _, h => by cases h
  | _ :: _, [], _, _, h => by cases h
theorem tg_many {js : List Nat} {k : Nat} (h : SGs Γ es js) (hh : Γ.hot = false := by rfl) (hn : ∀ env, (assignEach es env).length = js.length := by intro _; rfl) (hst : ∀ env, (assignEach es env).findIdx? (·.1) = none := by intro _; rfl) : SGt Γ (.Tuple es k pos) (.many js) := fun X p o =>
  PG_weak (PG_or (pg_tup (n := js.length) (o.calm hh) (h X p o) (hn _) (hst _)) (pg_unl (n := js.length) (o.calm hh) (h X p o) (hn _) (hst _))) fun v σ H Q q => by
    obtain ⟨st, B, M, F, env, d, env', r, pv, he, kk⟩ := q
    rw [o.K]
    have he' : (match itD d with
      | some ds => setMany js ds env
      | none => none) = some env' := he
    cases e1 : itD d with
    | none =>
      rw [e1] at he'
      cases he'
    | some ds =>
      rw [e1] at he'
      rcases itD_lst e1 with rfl | rfl
      · cases pv with
        | @lst a xs _ hx rx => exact .inr ⟨a, xs, rfl, Or.inl (Or.inl (r.bs.b _ _ hx)), by rw [rx.length, setMany_len he'], many_go r rx he' kk⟩
      · cases pv with
        | @tup a xs _ hx rx => exact .inl ⟨a, xs, rfl, sqt_mono r.bs.b hx, by rw [rx.length, setMany_len he'], many_go r rx he' kk⟩
theorem ss_unp {js : List Nat} {tg : Expr} (h : SE Γ e i) (ht : SGt Γ tg (.many js)) (hs : ∀ env, swapsWithSole [tg] e pos.line env = pure false := by intro _; rfl) (hw : ∀ env, swappedStores [tg] e env = pure none := by intro _; rfl)
    (h1 : ∀ env, (assignEach [tg] env).map (·.2) = [assign tg env] := by intro _; rfl) : SS Γ (.Assign [tg] e pos) (.unp js i) := fun X p o => PS_weak (ps_asg (h X p o.toOkx) (ht X p o) (hs _) (hw _) (h1 _)) fun D σ H q => by
  obtain ⟨st, B, M, F, env, out, r, he, k⟩ := q
  unfold evS at he
  split at he
  · rename_i d st1 e1
    obtain ⟨env1, e2, e3⟩ := Option.map_eq_some_iff.mp he
    subst e3
    exact ⟨st, B, M, F, env, d, st1, r, e1, fun v B' H' x r' pv => ⟨st1, B', M, F, env, d, env1, r', pv, e2, fun σ' r'' => k B' M σ' H' x r''⟩⟩
  · cases he
theorem ss_forg {tg : Expr} {j : Sg} {it : IT} (hi : SIg Γ tg e it) (ht : SGt Γ tg j) (hb : SSs Γ ss iss) (hh : Γ.hot = false := by rfl) (hs : ∀ env y, foldedSetIterable e env y = pure y := by intro _ _; rfl) : SS Γ (.For tg e ss [] pos) (.forr j it iss) := fun X p o =>
  PS_weak (ps_for o.own (o.calm hh) (hi X p o.toOkx) (ht X p o) (hb X p o) (hs _)) fun D σ H q => by
    obtain ⟨st, B, M, F, env, out, r, he, k⟩ := q
    unfold evS at he
    split at he
    · rename_i ds st1 e1
      refine walk_for r e1 (fun B1 n B' σ' H' => Ex B1 B' ∧ Ex B' H' ∧ Ex B B' ∧ ∃ sti envi Mi, Rel Γ.K p sti B' Mi F envi σ' H' ∧ forG (fun d env st => match sgD j d env with
        | some env1 => evSs Γ.cl iss env1 st
        | none => none) (ds.drop n) envi sti = some out) (fun B1 H1 x1 r1 => ⟨Ex.refl B1, r1.bs.b, x1, st1, env, M, r1, he⟩) (fun B1 n B' σ' H' q => ⟨q.1, q.2.1⟩) (fun B1 n B' σ' H' q o z hq => ?_) (fun B1 n d v B' σ' H' x1 hd pv q => ?_) (fun B1 B' σ' H' q => ?_)
      · obtain ⟨x2, x3, x4, sti, envi, Mi, r2, e4⟩ := z
        have nb : B' q = none := x3.free hq
        exact ⟨x2.trans (Ex.new nb), x3.up, x4.trans (Ex.new nb), sti, envi, Mi, r2.new hq, e4⟩
      · obtain ⟨x2, x3, x4, sti, envi, Mi, r2, e4⟩ := q
        have hdr : ds.drop n = d :: ds.drop (n + 1) := List.drop_eq_getElem_cons (by
            exact (List.getElem?_eq_some_iff.mp hd).1) |>.trans (by rw [(List.getElem?_eq_some_iff.mp hd).2])
        rw [hdr] at e4
        unfold forG at e4
        cases e5 : sgD j d envi with
        | none =>
          simp only [e5] at e4
          cases e4
        | some env1 =>
          simp only [e5] at e4
          refine ⟨sti, B', Mi, F, envi, d, env1, r2, pv, e5, fun σ2 r3 => ?_⟩
          cases e6 : evSs Γ.cl iss env1 sti with
          | none =>
            rw [e6] at e4
            cases e4
          | some o1 =>
            rw [e6] at e4
            refine ⟨sti, B', Mi, F, env1, o1, r3, e6, ?_⟩
            cases o1 with
            | nx ev2 st2 => exact fun B3 M3 σ3 H3 x5 r5 => ⟨B3, x2.trans x5, r5.bs.b, x4.trans x5, st2, ev2, M3, r5, e4⟩
            | ct ev2 st2 => exact fun B3 M3 σ3 H3 x5 r5 => ⟨B3, x2.trans x5, r5.bs.b, x4.trans x5, st2, ev2, M3, r5, e4⟩
            | bk ev2 st2 =>
              cases e4
              exact fun B3 M3 σ3 H3 x5 r5 => k B3 M3 σ3 H3 (x4.trans x5) r5
            | rt d2 st2 =>
              cases e4
              exact fun v3 B3 H3 x5 r5 p5 => k v3 B3 H3 (x4.trans x5) r5 p5
      · obtain ⟨x2, x3, x4, sti, envi, Mi, r2, e4⟩ := q
        rw [List.drop_length] at e4
        unfold forG at e4
        cases e4
        exact k B' Mi σ' H' x4 r2
    · cases he
end
theorem ss_for {Γ : Gam} {e : Expr} {ss : List Stmt} {iss : ISs} {pos : Pos} {tg : Expr} {j : Sg} {it : IT} (hi : SI Γ e it) (ht : SGt Γ tg j) (hb : SSs Γ ss iss) (hh : Γ.hot = false := by rfl) (hs : ∀ env y, foldedSetIterable e env y = pure y := by intro _ _; rfl) : SS Γ (.For tg e ss [] pos) (.forr j it iss) := ss_forg hi.g ht hb hh hs
theorem ArA.length {K : PySem.W.Frag} {p : Pa} {B : Hp} : ∀ {vs : List V} {ds : List (Option D)}, ArA K p B vs ds → vs.length = ds.length
  | _, _, .nil => rfl
  | _, _, .cons _ r => congrArg Nat.succ (ArA.length r)
  | _, _, .pool r => congrArg Nat.succ (ArA.length r)
  | _, _, .cell _ r => congrArg Nat.succ (ArA.length r)
theorem ArA.get {K : PySem.W.Frag} {p : Pa} {B : Hp} : ∀ {vs : List V} {ds : List (Option D)} {i : Nat} {d : Option D}, ArA K p B vs ds → ds[i]? = some d → ∃ v, vs[i]? = some v ∧ SlR K p B (fun _ => none) (slOf d) (some v)
  | _, _, _, _, .nil, e => by simp at e
  | _, _, 0, _, .cons h _, e => by
    simp at e
    subst e
    rw [slOf_rp h]
    exact ⟨_, rfl, h⟩
  | _, _, 0, _, .pool _, e => by
    simp at e
    subst e
    exact ⟨_, rfl, rfl⟩
  | _, _, 0, _, .cell h _, e => by
    simp at e
    subst e
    exact ⟨_, rfl, h⟩
  | _, _, i + 1, d, .cell _ r, e => by
    obtain ⟨v, h1, h2⟩ := ArA.get (i := i) (d := d) r (by simpa using e)
    exact ⟨v, by simpa using h1, h2⟩
  | _, _, i + 1, d, .cons _ r, e => by
    obtain ⟨v, h1, h2⟩ := ArA.get (i := i) (d := d) r (by simpa using e)
    exact ⟨v, by simpa using h1, h2⟩
  | _, _, i + 1, d, .pool r, e => by
    obtain ⟨v, h1, h2⟩ := ArA.get (i := i) (d := d) r (by simpa using e)
    exact ⟨v, by simpa using h1, h2⟩
theorem rel_start {K : PySem.W.Frag} {p : Pa} {st : Pl} {B F H : Hp} {vs : List V} {as : List (Option D)} {N : List Str} (w : Bs p st B F H) (ha : ArA K p B vs as) : Rel K p st B (fun _ => none) F (as.map slOf ++ List.replicate (N.length - as.length) .no) (L2.start N vs) H where
  bs := w
  m := fun a o h => by cases h
  md := fun a o h => by cases h
  mc := fun _ _ _ => rfl
  mt := fun _ _ => rfl
  en := {
    len := by
      unfold L2.start
      simp [ha.length]
    at_ := fun i s hi => by
      unfold L2.start
      by_cases hl : i < as.length
      · rw [List.getElem?_append_left (by simpa using hl), List.getElem?_map] at hi
        obtain ⟨d, h1, h2⟩ := Option.map_eq_some_iff.mp hi
        subst h2
        obtain ⟨v, h3, h4⟩ := ha.get h1
        exact ⟨some v, by rw [List.getElem?_append_left (by simpa [ha.length] using hl), List.getElem?_map, h3]; rfl, h4⟩
      · rw [List.getElem?_append_right (by simpa using hl), List.getElem?_replicate] at hi
        split at hi
        · rename_i hlt
          cases hi
          refine ⟨none, ?_, True.intro⟩
          rw [List.getElem?_append_right (by simpa [ha.length] using hl), List.getElem?_replicate, if_pos (by simpa [ha.length] using hlt)]
        · cases hi
    ap := fun i j ds es a hs _ hi _ _ _ => by
      by_cases hl : i < as.length
      · rw [List.getElem?_append_left (by simpa using hl), List.getElem?_map] at hi
        obtain ⟨d, h1, h2⟩ := Option.map_eq_some_iff.mp hi
        rw [← h2, slOf_isOw] at hs
        cases hs
      · rw [List.getElem?_append_right (by simpa using hl), List.getElem?_replicate] at hi
        split at hi
        · cases hi
          cases hs
        · cases hi
    io := fun i a ds _ hi => by
      by_cases hl : i < as.length
      · rw [List.getElem?_append_left (by simpa using hl), List.getElem?_map] at hi
        obtain ⟨d, h1, h2⟩ := Option.map_eq_some_iff.mp hi
        exact absurd h2 slOf_ow
      · rw [List.getElem?_append_right (by simpa using hl), List.getElem?_replicate] at hi
        split at hi <;> cases hi }
section
variable {P : Program} {w : World} {K : PySem.W.Frag} {mg : Str → Option Value} {base : Heap}
/-- an own error, where defs are told -/
structure ErrFo (P : Program) (w : World) (K : PySem.W.Frag) (mg : Str → Option Value) (base : Heap) (k : Nat) (x fld : Str) (C : Addr) : Prop where
  mgc : mg x = some (.ref C)
  oex : OexC K C
  def_ : ∃ fI fd j ps, j + 1 ≤ k ∧ PySem.W.findIn K (.ref C) "__init__" = some (some (.ref fI)) ∧ PySem.W.typeIn K (.ref fI) = some (.type "function") ∧ FnOk P w K mg base (L2N.CX P w) j fI fd ps (spE1 C fld) ∧ Binds K fd ps []
theorem ErrFo.at_ {P : Program} {w : World} {K : PySem.W.Frag} {mg : Str → Option Value} {base : Heap} {k : Nat} {x fld : Str} {C : Addr} {X : Cx} (e : ErrFo P w K mg base k x fld C) (hr : Room k X.A) (h1 : X.prog = P) (h2 : X.w = w) (h3 : X.K = K) (h4 : X.mg = mg) (h5 : X.base = base) : ErrAt X x fld C := by
  subst h1 h2 h3 h4 h5
  obtain ⟨fI, fd, j, ps, hj, a, b, c, d⟩ := e.def_
  exact ⟨e.mgc, e.oex, fI, fd, j, ps, a, b, c, hr.mono hj, d⟩
/-- a def that keeps what the table says of it -/
def Fo (P : Program) (w : World) (K : PySem.W.Frag) (mg : Str → Option Value) (base : Heap) (k : Nat) (cl : Cl) (f : Str) : Prop := ∃ fa fd ps, FnOk P w K mg base (L2N.CX P w) k fa fd ps (spF K cl f) ∧ mg f = some (.ref fa) ∧ PySem.W.keepIn K (.ref fa) = true ∧ Binds K fd ps []
def FoG (P : Program) (w : World) (K : PySem.W.Frag) (mg : Str → Option Value) (base : Heap) (k : Nat) (es : List (Str × Str)) (cl : Cl) (f : Str) : Prop := ∃ fa fd ps, FnOk P w K mg base (L2N.CX P w) k fa fd ps (spG mg es K cl f) ∧ mg f = some (.ref fa) ∧ PySem.W.keepIn K (.ref fa) = true ∧ Binds K fd ps []
def FoH (P : Program) (w : World) (K : PySem.W.Frag) (mg : Str → Option Value) (base : Heap) (k : Nat) (cl : Cl) (f : Str) : Prop := ∃ fa fd ps, L2H.FnH P w K mg base (L2N.CX P w) k fa fd ps (spF K cl (hotN f)) ∧ mg f = some (.ref fa) ∧ PySem.W.keepIn K (.ref fa) = true ∧ Binds K fd ps []
def FoL (P : Program) (w : World) (K : PySem.W.Frag) (mg : Str → Option Value) (base : Heap) (k : Nat) (cl : Cl) (f : Str) : Prop := ∃ fa fd ps j, j + 3 ≤ k ∧ GFn P w K mg base j fa fd ps (spL K cl f) ∧ mg f = some (.ref fa) ∧ PySem.W.keepIn K (.ref fa) = true ∧ Binds K fd ps [] ∧ ∀ as st d st', cl f as st = some (d, st') → ∃ ys, d = PyData.list ys
def FoI (P : Program) (w : World) (K : PySem.W.Frag) (mg : Str → Option Value) (base : Heap) (k : Nat) (cl : Cl) (f : Str) : Prop := ∃ fa fd ps, FnOk P w K mg base (L2N.CX P w) k fa fd ps (spI K cl f) ∧ mg f = some (.ref fa) ∧ PySem.W.keepIn K (.ref fa) = true ∧ Binds K fd ps []
def FoR (P : Program) (w : World) (K : PySem.W.Frag) (mg : Str → Option Value) (base : Heap) (k : Nat) (cl : Cl) (f : Str) : Prop := ∃ fa fd ps, FnOk P w K mg base (L2N.CX P w) k fa fd ps (spR K cl f) ∧ mg f = some (.ref fa) ∧ PySem.W.keepIn K (.ref fa) = true ∧ Binds K fd ps []
/-- what stands behind a def's body -/
structure Av (P : Program) (w : World) (K : PySem.W.Frag) (mg : Str → Option Value) (base : Heap) (k : Nat) (Γ : Gam) : Prop where
  fn : Γ.hot = false → ∀ g ∈ Γ.fs, Fo P w K mg base k Γ.cl g
  fnh : ∀ g ∈ Γ.hs, FoH P w K mg base k Γ.cl g
  bl : ∀ g ∈ Γ.bs, mg g = none
  xn : Γ.hot = false → ∀ g ∈ Γ.xs, FoG P w K mg base k Γ.es Γ.cl g
  er : Γ.hot = false → ∀ q ∈ Γ.es, ∃ C, ErrFo P w K mg base k q.1 q.2 C
  df : Γ.hot = false → ∀ q ∈ Γ.df, ∃ fa fd ps, FnOk P w K mg base (L2N.CX P w) k fa fd ps (spG mg Γ.es K Γ.cl q.1) ∧ mg q.1 = some (.ref fa) ∧ PySem.W.keepIn K (.ref fa) = true ∧ BindsO K fd ps q.2.1 q.2.2
  ef : ErrFacts Γ K mg
  gn : Γ.hot = false → ∀ g ∈ Γ.gn, FoL P w K mg base k Γ.cl g := by
    intro _ g hg
    cases hg
  fi : Γ.hot = false → ∀ g ∈ Γ.fi, FoI P w K mg base k Γ.cl g := by
    intro _ g hg
    cases hg
  ff : Γ.hot = false → ∀ g ∈ Γ.ff, FoR P w K mg base k Γ.cl g := by
    intro _ g hg
    cases hg
  kd : ∀ q ∈ Γ.kd, DctAt K w mg q := by
    intro q hq
    cases hq
  lx : Γ.hot = false → ∀ g ∈ Γ.lx, ∃ fa fd ps j, j + 3 ≤ k ∧ FnOk P w K mg base (L2N.CX P w) j fa fd ps (spF K Γ.cl g) ∧ mg g = some (.ref fa) ∧ PySem.W.keepIn K (.ref fa) = true ∧ Binds K fd ps [] := by
    intro _ g hg
    cases hg
  lm : Γ.lm = false := by rfl
  ob : Γ.hot = false → ObAv Γ.oc Γ.ms Γ.mkr Γ.its Γ.es Γ.cl P w K mg base k := by exact fun _ => ObAv.nil
section
variable {N : List Str} {qual : Str} {scope : Scope} {f : Addr} {cdv : Value} {A : Around} {outer : List Env} {s : Shared} {H : Hp} {E : XK} {k : Nat} {Γ : Gam} {p : Pa}
theorem Av.oks (a : Av P w K mg base k Γ) (hh : Γ.hot = false) (hK : Γ.K = K) (hN : Γ.N = N) (nd : N.Nodup) (hsc : Γ.sc = scope) (hl : p.lk = noLk) (hio : p.io.map Prod.fst = Γ.io) (hfr : p.fr = Γ.fr) (htb : p.tb = tabK K) (hr : Room k (A.deeper (PyProof.Rows.envOfC qual scope s.heap.objs.size f cdv))) :
    Oks Γ (cxOf (L2N.CX P w) P w K mg base N qual scope f cdv A outer s H E) p where
  K := hK.symm
  N := hN.symm
  nd := by rw [hN]; exact nd
  sc := hsc.symm
  calm := fun _ => rfl
  hotc := fun z => by
    rw [hh] at z
    cases z
  units := by
    have h := hr.un
    show (A.deeper (PyProof.Rows.envOfC qual scope s.heap.objs.size f cdv)).units + 100 < cLine
    omega
  fn := fun z g hg => by
    obtain ⟨fa, fd, ps, F1, h1, h2, h3⟩ := a.fn z g hg
    rw [hK]
    exact ⟨fa, fd, ps, k, F1, h1, h2, h3, hr⟩
  fnh := fun g hg => by
    obtain ⟨fa, fd, ps, F1, h1, h2, h3⟩ := a.fnh g hg
    rw [hK]
    exact ⟨fa, fd, ps, k, F1, h1, h2, h3, L2H.roomH_of hr⟩
  bl := a.bl
  xn := fun z g hg => by
    obtain ⟨fa, fd, ps, F1, h1, h2, h3⟩ := a.xn z g hg
    rw [hK]
    exact ⟨fa, fd, ps, k, F1, h1, h2, h3, hr⟩
  er := fun z q hq => by
    obtain ⟨C, e⟩ := a.er z q hq
    exact ⟨C, e.at_ hr rfl rfl rfl rfl rfl⟩
  df := fun z q hq => by
    obtain ⟨fa, fd, ps, F1, h1, h2, h3⟩ := a.df z q hq
    rw [hK]
    exact ⟨fa, fd, ps, k, F1, h1, h2, h3, hr⟩
  gn := fun z g hg => by
    obtain ⟨fa, fd, ps, j, hj, F1, h1, h2, h3, h4⟩ := a.gn z g hg
    rw [hK]
    exact ⟨fa, fd, ps, j, F1, h1, h2, h3, hr.mono hj, h4⟩
  lk := fun _ => hl
  lkh := fun _ _ _ _ z => by
    rw [hl] at z
    exact z.elim
  ef := ⟨a.ef.cl, a.ef.ki, a.ef.tr, a.ef.gc⟩
  kd := a.kd
  lx := fun z g hg => by
    obtain ⟨fa, fd, ps, j, hj, F1, h1, h2, h3⟩ := a.lx z g hg
    rw [hK]
    exact ⟨fa, fd, ps, j, F1, h1, h2, h3, hr.mono hj⟩
  lm := fun z => by
    rw [a.lm] at z
    cases z
  ob := fun z => (a.ob z).at_ hr
  tb := by rw [hK]; exact htb
  own := passes_of rfl
  stk := rfl
  frm := rfl
  fnx := fun _ => rfl
  io := hio
  fr := hfr
  fi := fun z g hg => by
    obtain ⟨fa, fd, ps, F1, h1, h2, h3⟩ := a.fi z g hg
    rw [hK]
    exact ⟨fa, fd, ps, k, F1, h1, h2, h3, hr⟩
  ff := fun z g hg => by
    obtain ⟨fa, fd, ps, F1, h1, h2, h3⟩ := a.ff z g hg
    rw [hK]
    exact ⟨fa, fd, ps, k, F1, h1, h2, h3, hr⟩
end
/-- a def's end over data -/
theorem run_end {K : PySem.W.Frag} {p : Pa} (hs : Std K p) {st st' : Pl} {B F H : Hp} {vs : List V} {as : List (Option D)} {N : List Str} {cl : Cl} {I : IF} {d : D} {Q : VK} (w1 : Bs p st B F H) (ha : ArA K p B vs as) (hn : I.n = N.length) (hrun : runF cl I as st = some (d, st'))
    (kk : ∀ v B' H', Ex B B' → Bs p st' B' F H' → Rp K B' v d → Q v H') : TSs K cl p I.body { nx := fun _ H' => Q .non H', rt := Q } (L2.start N vs) H := by
  refine ⟨st, B, fun _ => none, F, as.map slOf ++ List.replicate (N.length - as.length) .no, ?_⟩
  unfold runF at hrun
  rw [hn] at hrun
  cases e1 : evSs cl I.body (as.map slOf ++ List.replicate (N.length - as.length) .no) st with
  | none =>
    rw [e1] at hrun
    cases hrun
  | some o =>
    rw [e1] at hrun
    cases o with
    | rt d2 st2 =>
      cases hrun
      exact ⟨_, rel_start w1 ha, rfl, fun v B' H' x r pv => kk v B' H' x r (by rw [RtV.f hs.fr] at pv; exact pv)⟩
    | nx env2 st2 =>
      cases hrun
      exact ⟨_, rel_start w1 ha, rfl, fun B' M' σ' H' x r => kk .non B' H' x r.bs .non⟩
    | bk env2 st2 => cases hrun
    | ct env2 st2 => cases hrun
/-- a def's promise, over data, from its body in short -/
theorem fn_ok {x qual : Str} {params : Arguments} {body : List Stmt} {scope : Scope} {f : Addr} {fd : FuncData} {N ps : List Str} {k : Nat} {Γ : Gam} {I : IF} {cl : Cl} {g : Str} {dvs : List V} {kws : List (Str × V)} (F : FunD K x qual params body scope dvs kws f fd) (S : FnScope N ps scope)
    (hh : Γ.hot = false) (hK : Γ.K = K) (hN : Γ.N = N) (hsc : Γ.sc = scope) (hb : SSs Γ body I.body) (hn : I.n = N.length)
    (hcl : ∀ as st d st', cl g as st = some (d, st') → as.length = ps.length ∧ runF Γ.cl I as st = some (d, st')) (a : Av P w K mg base k Γ) (hio : Γ.io = none := by rfl) (hfr : Γ.fr = false := by rfl) : FnOk P w K mg base (L2N.CX P w) (k + 1) f fd ps (spF K cl g) := by
  refine F.ok S (fun vs H Q E h => ?_) (fun cdv A outer s H vs Q E hr h => ?_)
  · obtain ⟨p, st, B, F, as, d, st', _, _, ha, he, _⟩ := h
    rw [ha.length, (hcl _ _ _ _ he).1]
  · obtain ⟨p, st, B, F, as, d, st', hl, w1, ha, he, kk⟩ := h
    refine ⟨_, hb _ p (a.oks hh hK hN S.nd hsc hl.lk (by rw [hl.io, hio]; rfl) (hl.fr.trans hfr.symm) hl.tb hr), ?_⟩
    rw [hK]
    exact run_end hl w1 ha hn (hcl _ _ _ _ he).2 kk
end
end Ip

set_option Elab.async false
set_option linter.all false
set_option maxRecDepth 100000
set_option maxHeartbeats 4000000
namespace Ip
open PySem L2
section
variable {Γ : Gam} {e a b c : Expr} {i : IE} {pos p0 p1 p2 p3 p4 p5 : Pos} {x : Str} {j0 j1 : Nat}
theorem pl_of {K : PySem.W.Frag} {p : Pa} {st : Pl} {B M F : Hp} {env : List Sl} {σ : L2.St} {H : Hp} {n : Nat} (r : Rel K p st B M F env σ H) (he : env[n]? = some .pl) : σ[n]? = some (some (.ref p)) := by
  obtain ⟨w, h1, h2⟩ := r.en.at_ n _ he
  cases w with
  | none => exact h2.elim
  | some v =>
    cases v with
    | ref a =>
      obtain rfl : a = p := h2
      exact h1
    | _ => exact h2.elim
theorem pix_se (n k : Nat) (hN : Γ.N[n]? = some x := by rfl) (hv : Vis Γ.sc x := by first | exact Or.inl rfl | exact Or.inr (Or.inl rfl) | exact Or.inr (Or.inr rfl)) (hd : (x == ("__debug__" : Str)) = false := by decide) (hcd : (x == ("__classdict__" : Str)) = false := by decide) :
    SE Γ (.Subscript (.Name x p0) (.Constant (.int (k : Int)) j0 p1) pos) (.pix n k) := fun X p o =>
  PE_weak (pe_ix ix_list (pe_var (i := n) (by rw [o.N]; exact hN) (by rw [o.sc]; exact hv) hd hcd) pe_int (fun _ _ => rfl)) fun σ H Q q => by
    obtain ⟨st, B, M, F, env, d, st', r, he, kk⟩ := q
    unfold ev at he
    split at he
    · rename_i e1
      obtain ⟨m, e2, e3⟩ := Option.map_eq_some_iff.mp he
      cases e3
      obtain ⟨h1, h2⟩ := r.bs.pl
      refine ⟨_, pl_of r e1, p, _, _, .int m, rfl, rfl, Or.inl (Or.inl h1), ?_, kk _ B H (Ex.refl B) r (.int _)⟩
      match k, e2 with
      | 1, e2 => cases e2; rfl
      | 2, e2 => cases e2; rfl
      | 3, e2 => cases e2; rfl
      | 4, e2 => cases e2; rfl
    · cases he
theorem pix0 (n : Nat) (hN : Γ.N[n]? = some x) (hv : Vis Γ.sc x) (hd : (x == ("__debug__" : Str)) = false) (hcd : (x == ("__classdict__" : Str)) = false) (X : Cx) (p : Pa) (o : Okx Γ X p) : PE X (.Subscript (.Name x p0) (.Constant (.int 0) j0 p1) pos)
    (fun σ H Q => ∃ (st : Pl) (B M F : Hp) (env : List Sl) (_q : Addr), Rel Γ.K p st B M F env σ H ∧ env[n]? = some .pl ∧ ∀ q, B q = some (.lst (st.ns.map V.int)) → Q (.ref q) H) :=
  PE_weak (pe_ix ix_list (pe_var (i := n) (by rw [o.N]; exact hN) (by rw [o.sc]; exact hv) hd hcd) pe_int (fun _ _ => rfl)) fun σ H Q q => by
    obtain ⟨st, B, M, F, env, _, r, he, kk⟩ := q
    obtain ⟨h1, h2⟩ := r.bs.pl
    exact ⟨_, pl_of r he, p, _, _, .ref p.q, rfl, rfl, Or.inl (Or.inl h1), rfl, kk _ h2⟩
theorem pcel_se (n : Nat) (hN : Γ.N[n]? = some x := by rfl) (hv : Vis Γ.sc x := by first | exact Or.inl rfl | exact Or.inr (Or.inl rfl) | exact Or.inr (Or.inr rfl)) (hd : (x == ("__debug__" : Str)) = false := by decide) (hcd : (x == ("__classdict__" : Str)) = false := by decide) :
    SE Γ (.Subscript (.Subscript (.Name x p0) (.Constant (.int 0) j0 p1) p2) (.Subscript (.Name x p3) (.Constant (.int 1) j1 p4) p5) pos) (.pcel n) := fun X p o =>
  PE_weak (pe_ix ix_list (pix0 n hN hv hd hcd X p o) (pix_se (x := x) n 1 hN hv hd hcd X p o) (fun _ _ => rfl)) fun σ H Q q => by
    obtain ⟨st, B, M, F, env, d, st', r, he, kk⟩ := q
    unfold ev at he
    split at he
    · rename_i e1
      obtain ⟨m, e2, e3⟩ := Option.map_eq_some_iff.mp he
      cases e3
      refine ⟨st, B, M, F, env, p.a, r, e1, fun q h2 => ⟨st, B, M, F, env, .int st.i, st, r, by unfold ev; rw [e1]; rfl, fun v B' H' x1 r' pv => ?_⟩⟩
      cases pv
      refine ⟨q, st.ns.map V.int, st.i, .int m, rfl, rfl, Or.inl (Or.inl (r'.bs.b _ _ (x1 _ _ h2))), ?_, kk _ B' H' x1 r' (.int _)⟩
      unfold L2.atI at e2 ⊢
      obtain ⟨w, e4, e5⟩ := Option.bind_eq_some_iff.mp e2
      rw [List.length_map, e4]
      show (st.ns.map V.int)[w]? = some (.int m)
      rw [List.getElem?_map, e5]
      rfl
    · cases he
theorem plen_se (n : Nat) (hN : Γ.N[n]? = some x := by rfl) (hv : Vis Γ.sc x := by first | exact Or.inl rfl | exact Or.inr (Or.inl rfl) | exact Or.inr (Or.inr rfl)) (hd : (x == ("__debug__" : Str)) = false := by decide) (hcd : (x == ("__classdict__" : Str)) = false := by decide)
    (hb : Γ.bs.contains "len" = true := by rfl) (hg : GlS Γ.sc "len" := by rfl) : SE Γ (.Call (.Name "len" p3) [.Subscript (.Name x p0) (.Constant (.int 0) j0 p1) p2] [] pos) (.plen n) := fun X p o =>
  PE_weak (pe_callB call_len (o.gl hg) (o.bl _ (List.contains_iff_mem.mp hb)) PySem.boot_len (pa_cons (pix0 n hN hv hd hcd X p o) pa_nil) (by decide) (by decide) rfl rfl) fun σ H Q q => by
    obtain ⟨st, B, M, F, env, d, st', r, he, kk⟩ := q
    unfold ev at he
    split at he
    · rename_i e1
      cases he
      exact ⟨st, B, M, F, env, p.a, r, e1, fun q h2 => ⟨_, _, rfl, .inl ⟨_, Or.inl (Or.inl (r.bs.b _ _ h2)), rfl⟩, kk _ B H (Ex.refl B) r (by rw [List.length_map]; exact .int _)⟩⟩
    · cases he
theorem Rel.pool {K : PySem.W.Frag} {p : Pa} {st st' : Pl} {B M F : Hp} {env : List Sl} {σ : L2.St} {H : Hp} (r : Rel K p st B M F env σ H) (hq : B p.q = some (.lst (st'.ns.map V.int))) (hcs : st'.cs = st.cs := by rfl) : Rel K p st' B M F env σ (upd H p (.lst [.ref p.q, .int st'.i, .int st'.r, .int st'.c, .int st'.l])) where
  bs := {
    b := r.bs.b.right r.bs.pb
    f := r.bs.f.right r.bs.pf
    d := r.bs.d
    pf := r.bs.pf
    pb := r.bs.pb
    pl := ⟨upd_same, hq⟩
    ce := by
      have h := r.bs.ce.up (H' := upd H p (.lst [.ref p.q, .int st'.i, .int st'.r, .int st'.c, .int st'.l])) (fun k a hk => ⟨(r.bs.ce.b k a hk).1, (r.bs.ce.b k a hk).2.1⟩) (fun k a hk => upd_ne (r.bs.ce.b k a hk).2.2) r.bs.ce.tn fun z => tabs_lst z r.bs.pl.1
      refine ⟨fun k a hk => ?_, h.b, h.inj, h.tn, h.tt⟩
      obtain ⟨xs, ds, h1, h2, h3⟩ := h.at_ k a hk
      exact ⟨xs, ds, by rw [hcs]; exact h1, h2, h3⟩ }
  m := fun a o h => by
    rw [upd_ne (r.md a o h).2.2]
    exact r.m a o h
  md := r.md
  mc := r.mc
  mt := r.mt
  en := r.en
theorem ss_pput (n k : Nat) (h : SE Γ e i) (hN : Γ.N[n]? = some x := by rfl) (hv : Vis Γ.sc x := by first | exact Or.inl rfl | exact Or.inr (Or.inl rfl) | exact Or.inr (Or.inr rfl)) (hd : (x == ("__debug__" : Str)) = false := by decide) (hcd : (x == ("__classdict__" : Str)) = false := by decide)
    (hs : ∀ env, swapsWithSole [.Subscript (.Name x p0) (.Constant (.int (k : Int)) j0 p1) p2] e pos.line env = pure false := by intro _; rfl) (hw : ∀ env, swappedStores [.Subscript (.Name x p0) (.Constant (.int (k : Int)) j0 p1) p2] e env = pure none := by intro _; rfl)
    (h1 : ∀ env, (assignEach [.Subscript (.Name x p0) (.Constant (.int (k : Int)) j0 p1) p2] env).map (·.2) = [assign (.Subscript (.Name x p0) (.Constant (.int (k : Int)) j0 p1) p2) env] := by intro _; rfl) :
    SS Γ (.Assign [.Subscript (.Name x p0) (.Constant (.int (k : Int)) j0 p1) p2] e pos) (.pput n k i) := fun X p o =>
  PS_weak (ps_asg (h X p o.toOkx) (pg_sub (pe_var (i := n) (by rw [o.N]; exact hN) (by rw [o.sc]; exact hv) hd hcd) pe_int set_list) (hs _) (hw _) (h1 _)) fun D σ H q => by
    obtain ⟨st, B, M, F, env, out, r, he, kk⟩ := q
    unfold evS at he
    split at he
    · rename_i m st1 e1
      split at he
      · rename_i e2
        obtain ⟨st2, e3, e4⟩ := Option.map_eq_some_iff.mp he
        subst e4
        refine ⟨st, B, M, F, env, .int m, st1, r, e1, fun v B' H' x1 r' pv => ?_⟩
        cases pv
        obtain ⟨h3, h4⟩ := r'.bs.pl
        refine ⟨_, pl_of r' e2, p, _, (k : Int), k, rfl, rfl, h3, ?_, ?_⟩
        · match k, e3 with
          | 1, _ => rfl
          | 2, _ => rfl
          | 3, _ => rfl
          | 4, _ => rfl
        · match k, e3 with
          | 1, e3 => cases e3; exact kk B' M σ _ x1 (r'.pool (st' := { st1 with i := m }) h4)
          | 2, e3 => cases e3; exact kk B' M σ _ x1 (r'.pool (st' := { st1 with r := m }) h4)
          | 3, e3 => cases e3; exact kk B' M σ _ x1 (r'.pool (st' := { st1 with c := m }) h4)
          | 4, e3 => cases e3; exact kk B' M σ _ x1 (r'.pool (st' := { st1 with l := m }) h4)
      · cases he
    · cases he
end
end Ip

set_option Elab.async false
set_option linter.all false
set_option maxRecDepth 100000
set_option maxHeartbeats 4000000
namespace Ip
open PySem L2
def Ty.n : Ty → String
  | .int => "int"
  | .bool => "bool"
  | .str => "str"
  | .list => "list"
  | .tuple => "tuple"
def Ty.s : Ty → Str
  | .int => "int"
  | .bool => "bool"
  | .str => "str"
  | .list => "list"
  | .tuple => "tuple"
/-- what a value is; dicts whose keys are tuples too -/
inductive TyY (K : PySem.W.Frag) (H : Hp) : V → Value → Prop where
  | x {v : V} {t : Value} (h : TyX K H v t) : TyY K H v t
  | d {a : Addr} {xs : List TE3} (e : H a = some (dTO a xs)) : TyY K H (.ref a) (.type "dict")
def rIsiY (K : PySem.W.Frag) : List V → Hp → VK → Prop := fun xs H Q => ∃ (v c : V) (t u : Value) (b : Bool), xs = [v, c] ∧ ClsV c u ∧ TyY K H v t ∧ PySem.W.kitOne K t u = some b ∧ Q (.bl b) H
theorem call_isiY {X : Cx} : CallR X (.builtin "isinstance") (rIsiY X.K) := by
  intro pins s σ H xs us Q I r h
  obtain ⟨v, c, t, u, b, rfl, k, ty, e, q⟩ := h
  cases ty with
  | x ty => exact call_isi pins s σ H _ us Q I r ⟨v, c, t, u, b, rfl, k, ty, e, q⟩
  | @d a zs ea =>
    obtain ⟨u1, u2, rfl, r1, r2⟩ := vals2 r
    have e2 := k.eq r2
    subst e2
    cases (show u1 = Value.ref a from r1)
    obtain ⟨⟨_, _, _, o, _, _, h1, h2, _⟩, _⟩ := I.hok a _ ea
    exact PySem.W.kia_one PySem.W.kitx_dict I.kIn ⟨o, h1, h2.1⟩ e (fun z => nomatch z) fun tk => ⟨.bl b, H, I.tok tk, rfl, q⟩
theorem ty_of {K : PySem.W.Frag} {B H : Hp} {v : V} {d : D} (x : Ex B H) (h : Rp K B v d) : ∃ a, TyY K H v a ∧ ∀ t : Ty, PySem.W.kitOne K a (.type t.n) = some (isiD t d) := by
  cases h with
  | non => exact ⟨_, .x (.base .non), fun t => kit_ty (by cases t <;> first | exact (show kitB _ _ = some true by decide +kernel) | exact (show kitB _ _ = some false by decide +kernel))⟩
  | bl b => exact ⟨_, .x (.base (.bl b)), fun t => kit_ty (by cases t <;> first | exact (show kitB _ _ = some true by decide +kernel) | exact (show kitB _ _ = some false by decide +kernel))⟩
  | int i => exact ⟨_, .x (.base (.int i)), fun t => kit_ty (by cases t <;> first | exact (show kitB _ _ = some true by decide +kernel) | exact (show kitB _ _ = some false by decide +kernel))⟩
  | str s => exact ⟨_, .x (.base (.str s)), fun t => kit_ty (by cases t <;> first | exact (show kitB _ _ = some true by decide +kernel) | exact (show kitB _ _ = some false by decide +kernel))⟩
  | lst hx _ => exact ⟨_, .x (.base (.lst (x _ _ hx))), fun t => kit_ty (by cases t <;> first | exact (show kitB _ _ = some true by decide +kernel) | exact (show kitB _ _ = some false by decide +kernel))⟩
  | tup hx _ =>
    rcases hx with (hx | ⟨o, hx⟩) | ⟨o, its, n, hk, hc, _⟩
    · exact ⟨_, .x (.base (.tup (x _ _ hx))), fun t => kit_ty (by cases t <;> first | exact (show kitB _ _ = some true by decide +kernel) | exact (show kitB _ _ = some false by decide +kernel))⟩
    · exact ⟨_, .x (.fTuple (x _ _ hx)), fun t => kit_ty (by cases t <;> first | exact (show kitB _ _ = some true by decide +kernel) | exact (show kitB _ _ = some false by decide +kernel))⟩
    · exact ⟨_, .x (.kTuple hk hc), fun t => kit_ty (by cases t <;> first | exact (show kitB _ _ = some true by decide +kernel) | exact (show kitB _ _ = some false by decide +kernel))⟩
  | obj o hx _ => exact ⟨_, .x (.base (o.ty (x _ _ hx))), fun t => by cases t <;> exact o.no _ (by decide)⟩
  | dctK hx _ => exact ⟨_, .x (.fDict (x _ _ hx)), fun t => kit_ty (by cases t <;> first | exact (show kitB _ _ = some true by decide +kernel) | exact (show kitB _ _ = some false by decide +kernel))⟩
  | dctT hx _ => exact ⟨_, .d (x _ _ hx), fun t => kit_ty (by cases t <;> first | exact (show kitB _ _ = some true by decide +kernel) | exact (show kitB _ _ = some false by decide +kernel))⟩
theorem ty_blt (t : Ty) : bootBuiltins t.s = some (.type t.n) := by cases t <;> decide +kernel
theorem ty_db (t : Ty) : t.s ≠ "__name__" ∧ (t.s == ("__debug__" : Str)) = false := by cases t <;> decide
section
variable {Γ : Gam} {e : Expr} {i : IE} {pos p0 p1 : Pos}
theorem isi_se (t : Ty) (h : SE Γ e i) (hb : Γ.bs.contains "isinstance" = true := by rfl) (hg : GlS Γ.sc "isinstance" := by rfl) (ht : Γ.bs.contains t.s = true := by rfl) (htg : GlS Γ.sc t.s := by rfl)
    (hs : ∀ env, starEach [e, .Name t.s p1] env = (false, eval e env) :: starEach [.Name t.s p1] env := by intro _; rfl) : SE Γ (.Call (.Name "isinstance" p0) [e, .Name t.s p1] [] pos) (.isi t i) := fun X p o =>
  PE_weak (pe_callB call_isiY (o.gl hg) (o.bl _ (List.contains_iff_mem.mp hb)) (by decide +kernel) (pa_cons (h X p o) (pa_cons (pe_bltn (v := .ty t.n) (o.gl htg) (o.bl _ (List.contains_iff_mem.mp ht)) (ty_blt t) rfl (ty_db t).1 (ty_db t).2) pa_nil rfl) (hs _)) (by decide) (by decide) (hs _) rfl) fun σ H Q q => by
    rw [o.K]
    obtain ⟨st, B, M, F, env, d, st', r, he, k⟩ := q
    unfold ev at he
    split at he
    · rename_i x st1 e1
      cases he
      refine ⟨st, B, M, F, env, x, _, r, e1, fun v B' H' x1 r' pv => ?_⟩
      obtain ⟨a, h1, h2⟩ := ty_of r'.bs.b pv
      exact ⟨v, .ty t.n, a, .type t.n, _, rfl, .ty _, h1, h2 t, k _ B' H' x1 r' (.bl _)⟩
    · cases he
end
end Ip

set_option Elab.async false
set_option linter.all false
set_option maxRecDepth 100000
set_option maxHeartbeats 4000000
namespace Ip
open PySem L2
/-- a def as it stands behind the top -/
def Hv (K : PySem.W.Frag) (mg : Str → Option Value) (x : Str) (st : Stmt) (ps : List Str) : Prop := ∃ fa fd dvs, FunD K x x (defArgs st) (defBody st) (defScope st) dvs [] fa fd ∧ mg x = some (.ref fa) ∧ Binds K fd ps []
def runI (n : Nat) (cl : Cl) (I : IF) (as : List (Option D)) (st : Pl) : Option (D × Pl) := if as.length = n then runF cl I as st else none
def noCl : Cl := fun _ _ _ => none
section
variable {P : Program} {w : World} {K : PySem.W.Frag} {mg : Str → Option Value} {base : Heap}
theorem fo_zero {k : Nat} {f : Str} {st : Stmt} {ps : List Str} (h : Hv K mg f st ps) : Fo P w K mg base k noCl f := by
  obtain ⟨fa, fd, dvs, F, hm, hb⟩ := h
  have no : ∀ vs H Q E, ¬ spF K noCl f vs H Q E := fun vs H Q E q => by
    obtain ⟨_, _, _, _, _, _, _, _, _, _, e, _⟩ := q
    cases e
  exact ⟨fa, fd, ps, ⟨fun vs H Q E q => (no _ _ _ _ q).elim, fun A outer s H args us vs Q E _ _ _ _ q => (no _ _ _ _ q).elim⟩, hm, F.kp, hb⟩
theorem runI_of {n : Nat} {cl : Cl} {I : IF} {as : List (Option D)} {s : Pl} {d : D} {s' : Pl} (e : runI n cl I as s = some (d, s')) : as.length = n ∧ runF cl I as s = some (d, s') := by
  unfold runI at e
  split at e
  · rename_i hl
    exact ⟨hl, e⟩
  · cases e
theorem fo_step {k : Nat} {f : Str} {st : Stmt} {N ps : List Str} {Γ : Gam} {I : IF} {cl : Cl} (h : Hv K mg f st ps) (S : FnScope N ps (defScope st)) (hh : Γ.hot = false) (hK : Γ.K = K) (hN : Γ.N = N) (hsc : Γ.sc = defScope st) (hb : SSs Γ (defBody st) I.body) (hn : I.n = N.length)
    (hcl : ∀ as s, cl f as s = runI ps.length Γ.cl I as s) (a : Av P w K mg base k Γ) (hio : Γ.io = none := by rfl) (hfr : Γ.fr = false := by rfl) : Fo P w K mg base (k + 1) cl f := by
  obtain ⟨fa, fd, dvs, F, hm, hbn⟩ := h
  refine ⟨fa, fd, ps, fn_ok F S hh hK hN hsc hb hn (fun as s d s' e => ?_) a hio hfr, hm, F.kp, hbn⟩
  rw [hcl] at e
  exact runI_of e
def spPool (K : PySem.W.Frag) : Sp := fun vs H Q _ => ∃ (a : Addr) (ns : List Int), vs = [.ref a] ∧ SqL K H a (ns.map V.int) ∧ ∀ q p, H q = none → H p = none → p ≠ q → Q (.ref p) (upd (upd H q (.lst (ns.map V.int))) p (.lst [.ref q, .int 0, .int 0, .int 0, .int 0]))
theorem pool_ok {x qual : Str} {params : Arguments} {body : List Stmt} {scope : Scope} {f : Addr} {fd : FuncData} {y : Str} {p0 p1 p2 p3 p4 : Pos} {j1 j2 j3 j4 : Nat} {q1 q2 q3 q4 : Pos} (F : FunD K x qual params body scope [] [] f fd) (S : FnScope [y] [y] scope)
    (hb : body = [.Return (some (.List [.Call (.Name "list" p0) [.Name y p1] [] p2, .Constant (.int 0) j1 q1, .Constant (.int 0) j2 q2, .Constant (.int 0) j3 q3, .Constant (.int 0) j4 q4] p3)) p4])
    (hl : mg "list" = none) (hg : GlS scope "list") (hy : Vis scope y) (h1 : (y == ("__debug__" : Str)) = false) (h2 : (y == ("__classdict__" : Str)) = false) : FnOk P w K mg base (L2N.CX P w) 1 f fd [y] (spPool K) := by
  subst hb
  refine F.ok S (fun vs H Q E h => ?_) (fun cdv A outer s H vs Q E hr h => ?_)
  · obtain ⟨a, ns, rfl, _⟩ := h
    rfl
  · obtain ⟨a, ns, rfl, hs, k⟩ := h
    refine ⟨_, pss_one (ps_ret (pe_lst (pa_cons (pe_callTy call_list_of hg hl (by decide +kernel) (pa_cons (pe_var (i := 0) rfl hy h1 h2) pa_nil) (by decide) (by decide)) (pa_cons pe_int (pa_cons pe_int (pa_cons pe_int (pa_cons pe_int pa_nil))))))), ?_⟩
    refine ⟨_, rfl, a, _, rfl, .inl hs, fun q hq => ⟨by show 5 ≤ sizeLine; decide, fun p hp => ?_⟩⟩
    have hpq : p ≠ q := fun e => by
      rw [e, upd_same] at hp
      cases hp
    rw [upd_ne hpq] at hp
    exact k q p hq hp hpq
def spLaw (K : PySem.W.Frag) : Sp := fun vs H Q _ => ∃ (a : Addr) (ns : List Int), vs = [.ref a] ∧ SqL K H a (ns.map V.int) ∧ ns.length ≤ 63 ∧ LamX.Tabs (tabK K) H ∧ ∀ H', Q (.bl true) H'
def pl0 (ns : List Int) : Pl := ⟨ns, 0, 0, 0, 0, []⟩
/-- what the law's rows behind the pool's come to, at a script -/
def lawRun (cl : Cl) (n : Nat) (b : ISs) (ns : List Int) : Option Out := evSs cl b (.no :: .pl :: List.replicate (n - 2) .no) (pl0 ns)
theorem PSs_ex {X : Cx} {ss : List Stmt} {t : Pa → TS} {K : PySem.W.Frag} (h : ∀ p : Pa, Std K p → PSs X ss (t p)) : PSs X ss (fun D σ H => ∃ p : Pa, Std K p ∧ t p D σ H) := ⟨fun pins s σ H D I q => by
  obtain ⟨p, hp, q⟩ := q
  exact (h p hp).run pins s σ H D I q⟩
theorem law_ok {x qual : Str} {params : Arguments} {scope : Scope} {f : Addr} {fd : FuncData} {y z pn : Str} {N : List Str} {k : Nat} {Γ : Gam} {I : IF} {rest : List Stmt} {p0 p1 p2 p3 p4 : Pos} {fp : Addr} {fdp : FuncData} {yp : Str}
    (F : FunD K x qual params (.Assign [.Name z p0] (.Call (.Name pn p1) [.Name y p2] [] p3) p4 :: rest) scope [] [] f fd) (S : FnScope (y :: z :: N) [y] scope)
    (hh : Γ.hot = false) (hK : Γ.K = K) (hN : Γ.N = y :: z :: N) (hsc : Γ.sc = scope) (hb : SSs Γ rest I.body) (hn : I.n = N.length + 2) (av : Av P w K mg base (k + 1) Γ)
    (Fp : FnOk P w K mg base (L2N.CX P w) 1 fp fdp [yp] (spPool K)) (hp : mg pn = some (.ref fp)) (hkp : PySem.W.keepIn K (.ref fp) = true) (hbp : Binds K fdp [yp] []) (hgp : GlS scope pn) (hy : Vis scope y) (hz : Loc scope z)
    (hd : (pn == ("__debug__" : Str)) = false) (h1 : (y == ("__debug__" : Str)) = false) (h2 : (y == ("__classdict__" : Str)) = false)
    (true_ : ∀ ns : List Int, ns.length ≤ 63 → ∃ st, lawRun Γ.cl I.n I.body ns = some (.rt (.bool true) st)) (hio : Γ.io = none := by rfl) (hfr : Γ.fr = false := by rfl) : FnOk P w K mg base (L2N.CX P w) (k + 2) f fd [y] (spLaw K) := by
  refine F.ok S (fun vs H Q E h => ?_) (fun cdv A outer s H vs Q E hr h => ?_)
  · obtain ⟨a, ns, rfl, _⟩ := h
    rfl
  · obtain ⟨a, ns, rfl, hs, hl, htab, kk⟩ := h
    refine ⟨_, pss_cons (ps_set (i := 1) S.nd rfl hz (pe_call Fp (hr.mono (by omega)) hgp hp hkp hbp .nil passN (pa_cons (pe_var (i := 0) rfl hy h1 h2) pa_nil) hd)) (PSs_ex fun p hp => hb _ p (av.oks hh hK hN S.nd hsc hp.lk (by rw [hp.io, hio]; rfl) (hp.fr.trans hfr.symm) hp.tb hr)), ?_⟩
    refine ⟨_, rfl, a, ns, rfl, hs, fun q p hq hp hpq => ?_⟩
    obtain ⟨st, ht⟩ := true_ ns hl
    unfold lawRun at ht
    rw [hn] at ht
    have ht' : evSs Γ.cl I.body (.no :: .pl :: List.replicate N.length .no) (pl0 ns) = some (.rt (.bool true) st) := ht
    rw [hK]
    refine ⟨⟨p, q, noLk, none, false, fun _ => none, tabK K, 0⟩, ⟨rfl, rfl, rfl, rfl⟩, pl0 ns, upd (fun _ => none) q (.lst (ns.map V.int)), fun _ => none, fun _ => none, .no :: .pl :: List.replicate N.length .no, _, ?_, ht', fun v B' H' x r pv => ?_⟩
    · refine ⟨⟨fun c u e => ?_, fun c u e => by (cases e), fun c u e => by (cases e), rfl, ?_, ⟨upd_same, upd_same⟩, ⟨fun k c e => by (cases e), fun k c e => by (cases e), fun j k c e => by (cases e), fun t ht => ⟨upd_ne (fun e => by obtain ⟨ps, g1, _⟩ := htab t ht; rw [e, hq] at g1; cases g1), rfl⟩, tabs_new (tabs_new htab hq) (by rw [upd_ne hpq]; exact hp)⟩⟩, fun c u e => by (cases e), fun c u e => by (cases e), fun k c e => by (cases e), fun _ _ => rfl, ?_⟩
      · by_cases hc : c = q
        · subst hc
          rw [upd_same] at e
          rw [← e, upd_ne hpq.symm, upd_same]
        · rw [upd_ne hc] at e
          cases e
      · rw [upd_ne hpq]
      · refine ⟨?_, fun i s hi => ?_, fun i j ds es b hs _ hi _ _ _ => ?_, fun i b ds z _ => by cases z⟩
        · simp [L2.start]
        · match i, hi with
          | 0, hi =>
            cases hi
            exact ⟨some (.ref a), rfl, True.intro⟩
          | 1, hi =>
            cases hi
            exact ⟨some (.ref p), rfl, rfl⟩
          | i + 2, hi =>
            have hi2 : (List.replicate N.length Sl.no)[i]? = some s := hi
            rw [List.getElem?_replicate] at hi2
            split at hi2
            · rename_i hlt
              cases hi2
              refine ⟨none, ?_, True.intro⟩
              show (List.replicate N.length (none : Option V))[i]? = some none
              rw [List.getElem?_replicate, if_pos hlt]
            · cases hi2
        · match i, hi with
          | 0, hi =>
            cases hi
            cases hs
          | 1, hi =>
            cases hi
            cases hs
          | i + 2, hi =>
            have hi2 : (List.replicate N.length Sl.no)[i]? = some ds := hi
            rw [List.getElem?_replicate] at hi2
            split at hi2
            · cases hi2
              cases hs
            · cases hi2
    · have pv : Rp K B' v (.bool true) := pv
      cases pv
      exact kk H'
/-- a def that lets nothing out -/
theorem quiet_fn {k : Nat} {f : Addr} {fd : FuncData} {ps : List Str} {sp : Sp} (F : FnOk P w K mg base (L2N.CX P w) k f fd ps sp) (h : ∀ vs H Q E, sp vs H Q E → sp vs H Q E0) : FnOk P w K mg base CX0 k f fd ps sp :=
  ⟨F.len, fun A outer s H args us vs Q E hr e0 hb hv hs => codeAny_mono (F.run A outer s H args us vs Q E0 hr e0 hb hv (h _ _ _ _ hs)) fun r s' q => by
    cases r with
    | ok fl => cases fl <;> exact q
    | error e =>
      obtain ⟨_, _, _, _, _, _, _, _, _, _, _, _, z⟩ := q
      exact z.elim⟩
end
end Ip

set_option Elab.async false
set_option linter.all false
set_option maxRecDepth 100000
set_option maxHeartbeats 4000000

set_option Elab.async false
set_option linter.all false
set_option maxRecDepth 100000
set_option maxHeartbeats 4000000
namespace Ip
open PySem L2 PySem.W He
def SaysE (P : Program) (fa : List Fa) (fn : List DefD) (er : List ErrD) (K : PySem.W.Frag) : Prop := obsE P fa fn er K = valE fn er
theorem SaysE.old {P : Program} {fa : List Fa} {fn : List DefD} {er : List ErrD} {K : PySem.W.Frag} (c : SaysE P fa fn er K) : SaysD fa fn K := congrArg (fun z : AlE => z.1) c
end Ip

set_option Elab.async false
set_option linter.all false
set_option maxRecDepth 100000
set_option maxHeartbeats 4000000

set_option Elab.async false
set_option linter.all false
set_option maxRecDepth 100000
set_option maxHeartbeats 4000000

set_option Elab.async false
set_option linter.all false
set_option maxRecDepth 100000
set_option maxHeartbeats 4000000
namespace Ip
open PySem L2
section
variable {Γ : Gam} {e a b c : Expr} {es : List Expr} {ia ib ic i : IE} {ies : IEs} {pos p0 p1 p2 p3 : Pos} {x : Str} {s : Stmt}
theorem bools_rp {K : PySem.W.Frag} {B : Hp} : ∀ {ds : List D} {vs : List V} {bs : List Bool}, RpA K B vs ds → boolsD ds = some bs → vs = bs.map V.bl
  | [], _, bs, .nil, h => by
    cases h
    rfl
  | d :: ds, _, bs, .cons hv r, h => by
    cases d with
    | bool b =>
      obtain ⟨bs', e1, e2⟩ := Option.map_eq_some_iff.mp (show (boolsD ds).map (fun bs => b :: bs) = some bs from h)
      subst e2
      cases hv
      rw [bools_rp r e1]
      rfl
    | _ => cases h
theorem all_se (h : SE Γ e i) (hh : Γ.hot = false := by rfl) (hb : Γ.bs.contains "all" = true := by rfl) (hg : GlS Γ.sc "all" := by rfl) (hs : ∀ env, starEach [e] env = (false, eval e env) :: starEach [] env := by intro _; rfl) :
    SE Γ (.Call (.Name "all" p0) [e] [] pos) (.bi .all (.cons i .nil)) := fun X p o =>
  PE_weak (pe_callB (cr_all (o.calm hh)) (o.gl hg) (o.bl _ (List.contains_iff_mem.mp hb)) (by decide +kernel) ((sa_cons h sa_nil hs) X p o) (by decide) (by decide) (hs _) rfl) fun σ H Q q => by
    refine tx_bi ?_ q
    intro st B M F env v d z H r pv e2 Q k
    rw [o.K]
    cases pv with
    | @lst a xs ds hx rx =>
      obtain ⟨bs, e3, e4⟩ := Option.map_eq_some_iff.mp (show (boolsD ds).map (fun bs => PyData.bool (bs.all id)) = some z from e2)
      subst e4
      rw [bools_rp rx e3] at hx
      exact ⟨a, bs, rfl, Or.inl (Or.inl (r.bs.b _ _ hx)), k _ B H (Ex.refl B) r (.bl _)⟩
    | _ => cases e2
end
end Ip

set_option Elab.async false
set_option linter.all false
set_option maxRecDepth 100000
set_option maxHeartbeats 4000000
namespace Ip
open PySem L2
def Txx (W : WX) (mg : Str → Option Value) (Γ : Gam) (p : Pa) (i : IE) : TE := fun σ H Q => ∃ st B M F env, Rel Γ.K p st B M F env σ H ∧
  ((∃ d st', ev Γ.cl i env st = some (d, st') ∧ ∀ v B' H', Ex B B' → Rel Γ.K p st' B' M F env σ H' → Rp Γ.K B' v d → Q v H') ∨
   (∃ er st', xv Γ.cl i env st = some (er, st') ∧ ∀ cls d B' H', Ex B B' → Rel Γ.K p st' B' M F env σ H' → Raised mg Γ.es Γ.K p B' (uni M F) er cls d H' → W cls (some d) σ H'))
def SX (Γ : Gam) (e : Expr) (i : IE) : Prop := ∀ X p W, Okx Γ X p → L2N.Takes X W → PE X e (Txx W X.mg Γ p i)
section
variable {Γ : Gam} {e a b c : Expr} {es : List Expr} {ia ib ic i : IE} {ies : IEs} {pos p0 : Pos} {x : Str} {W : WX} {mg : Str → Option Value}
theorem Txx.ok {σ : L2.St} {H : Hp} {Q : VK} (q : Tx Γ.K Γ.cl p i σ H Q) : Txx W mg Γ p i σ H Q := by
  obtain ⟨st, B, M, F, env, d, st', r, he, k⟩ := q
  exact ⟨st, B, M, F, env, r, .inl ⟨d, st', he, k⟩⟩
end
end Ip

set_option Elab.async false
set_option linter.all false
set_option maxRecDepth 100000
set_option maxHeartbeats 4000000
namespace Ip
open PySem L2
/-- what is wanted of an error that leaves a statement -/
def ErrK2 (W : WX) (mg : Str → Option Value) (Γ : Gam) (p : Pa) (B F : Hp) (er : Er) (env : List Sl) (st : Pl) : Prop := ∀ cls d B' M' σ' H', Ex B B' → Rel Γ.K p st B' M' F env σ' H' → Raised mg Γ.es Γ.K p B' (uni M' F) er cls d H' → W cls (some d) σ' H'
def TS1x (W : WX) (mg : Str → Option Value) (Γ : Gam) (p : Pa) (s : IS) : TS := fun D σ H => ∃ st B M F env, Rel Γ.K p st B M F env σ H ∧
  ((∃ o, evS Γ.cl s env st = some o ∧ OutK Γ.K p B F D o) ∨ (∃ er env1 st1, xvS Γ.cl s env st = some (er, env1, st1) ∧ ErrK2 W mg Γ p B F er env1 st1))
def TSsx (W : WX) (mg : Str → Option Value) (Γ : Gam) (p : Pa) (s : ISs) : TS := fun D σ H => ∃ st B M F env, Rel Γ.K p st B M F env σ H ∧
  ((∃ o, evSs Γ.cl s env st = some o ∧ OutK Γ.K p B F D o) ∨ (∃ er env1 st1, xvSs Γ.cl s env st = some (er, env1, st1) ∧ ErrK2 W mg Γ p B F er env1 st1))
def SSX (Γ : Gam) (s : Stmt) (i : IS) : Prop := ∀ X p W, Oks Γ X p → L2N.Takes X W → PS X s (TS1x W X.mg Γ p i)
def SSsX (Γ : Gam) (s : List Stmt) (i : ISs) : Prop := ∀ X p W, Oks Γ X p → L2N.Takes X W → PSs X s (TSsx W X.mg Γ p i)
section
variable {Γ : Gam} {e a b c : Expr} {es : List Expr} {ia ib ic i : IE} {ies : IEs} {pos pos' p0 p1 p2 : Pos} {x : Str} {W : WX} {mg : Str → Option Value} {s : Stmt} {ss : List Stmt} {is : IS} {iss : ISs}
theorem ErrK2.mono {p : Pa} {B B' F : Hp} {er : Er} {env : List Sl} {st : Pl} (h : ErrK2 W mg Γ p B F er env st) (x : Ex B B') : ErrK2 W mg Γ p B' F er env st := fun cls d B2 M2 σ2 H2 x2 r z => h cls d B2 M2 σ2 H2 (x.trans x2) r z
/-- what cannot raise -/
theorem ssx_calm (h : SS Γ s is) : SSX Γ s (.calm is) := fun X p W o tk => PS_weak (h X p o) fun D σ H q => by
  obtain ⟨st, B, M, F, env, r, q⟩ := q
  rcases q with ⟨out, he, k⟩ | ⟨er, env1, st1, he, _⟩
  · unfold evS at he
    exact ⟨st, B, M, F, env, out, r, he, k⟩
  · unfold xvS at he
    cases he
theorem sssx_nil : SSsX Γ [] .nil := fun X p W o tk => PSs_weak pss_nil fun D σ H q => by
  obtain ⟨st, B, M, F, env, r, q⟩ := q
  rcases q with ⟨out, he, k⟩ | ⟨er, env1, st1, he, _⟩
  · unfold evSs at he
    cases he
    exact k B M σ H (Ex.refl B) r
  · unfold xvSs at he
    cases he
theorem sssx_cons (h : SSX Γ s is) (hr : SSsX Γ ss iss) : SSsX Γ (s :: ss) (.cons is iss) := fun X p W o tk => PSs_weak (pss_cons (h X p W o tk) (hr X p W o tk)) fun D σ H q => by
  obtain ⟨st, B, M, F, env, r, q⟩ := q
  rcases q with ⟨out, he, k⟩ | ⟨er, env1, st1, he, k⟩
  · unfold evSs at he
    split at he
    · rename_i env2 st2 e1
      exact ⟨st, B, M, F, env, r, .inl ⟨_, e1, fun B' M' σ' H' x r' => ⟨st2, B', M', F, env2, r', .inl ⟨out, he, k.mono x⟩⟩⟩⟩
    · rename_i o1 hn e1
      cases he
      refine ⟨st, B, M, F, env, r, .inl ⟨_, e1, ?_⟩⟩
      cases out with
      | nx env1 st1 => exact (hn env1 st1 rfl).elim
      | rt d st1 => exact k
      | bk env1 st1 => exact k
      | ct env1 st1 => exact k
    · cases he
  · unfold xvSs at he
    split at he
    · rename_i z e1
      cases he
      exact ⟨st, B, M, F, env, r, .inr ⟨_, _, _, e1, k⟩⟩
    · split at he
      · rename_i env2 st2 e2
        exact ⟨st, B, M, F, env, r, .inl ⟨_, e2, fun B' M' σ' H' x r' => ⟨st2, B', M', F, env2, r', .inr ⟨er, env1, st1, he, k.mono x⟩⟩⟩⟩
      · cases he
end
end Ip

set_option Elab.async false
set_option linter.all false
set_option maxRecDepth 100000
set_option maxHeartbeats 4000000
namespace Ip
open PySem L2
/-- what a def's body raises, as what its name with the mark comes to -/
def runX (n : Nat) (cl : Cl) (f : IF) (as : List (Option D)) (st : Pl) : Option (D × Pl) := if as.length = n then
  (match xvSs cl f.body (as.map slOf ++ List.replicate (f.n - as.length) .no) st with
  | some (er, _, st1) => some (erD er, st1)
  | none => none) else none
theorem erOf_erD (er : Er) : erOf (erD er) = some er := rfl
theorem fnx_ok {P : Program} {w : World} {K : PySem.W.Frag} {mg : Str → Option Value} {base : Heap} {x qual : Str} {params : Arguments} {body : List Stmt} {scope : Scope} {f : Addr} {fd : FuncData} {N ps : List Str} {k : Nat} {Γ : Gam} {I : IF} {cl : Cl} {g : Str}
    {dvs : List V} {kws : List (Str × V)} (F : FunD K x qual params body scope dvs kws f fd) (S : FnScope N ps scope) (hh : Γ.hot = false) (hK : Γ.K = K) (hN : Γ.N = N) (hsc : Γ.sc = scope) (hb : SSsX Γ body I.body) (hn : I.n = N.length)
    (hcl : ∀ as st, cl g as st = runI ps.length Γ.cl I as st) (hcx : ∀ as st, cl (bang g) as st = runX ps.length Γ.cl I as st)
    (av : Av P w K mg base k Γ) (hio : Γ.io = none := by rfl) (hfr : Γ.fr = false := by rfl) :
    FnOk P w K mg base (L2N.CX P w) (k + 1) f fd ps (spG mg Γ.es K cl g) := by
  refine F.ok S (fun vs H Q E h => ?_) (fun cdv A outer s H vs Q E hr h => ?_)
  · obtain ⟨p, st, B, F, as, _, _, ha, q⟩ := h
    rw [ha.length]
    rcases q with ⟨d, st', e, _⟩ | ⟨dd, er, st', e, _⟩
    · rw [hcl] at e
      unfold runI at e
      split at e
      · assumption
      · cases e
    · rw [hcx] at e
      unfold runX at e
      split at e
      · assumption
      · cases e
  · obtain ⟨p, st, B, F0, as, hl, w1, ha, q⟩ := h
    refine ⟨_, hb _ p (fun cls d _ H' => E cls d H') (av.oks hh hK hN S.nd hsc hl.lk (by rw [hl.io, hio]; rfl) (hl.fr.trans hfr.symm) hl.tb hr) (L2N.takes_of rfl rfl rfl rfl), ?_⟩
    have rl := rel_start (N := N) w1 ha
    have hmg : (cxOf (L2N.CX P w) P w K mg base N qual scope f cdv A outer s H E).mg = mg := rfl
    rw [hmg]
    subst hK
    refine ⟨st, B, fun _ => none, F0, as.map slOf ++ List.replicate (N.length - as.length) .no, rl, ?_⟩
    rcases q with ⟨d, st', e, kk⟩ | ⟨dd, er, st', e, e2, kk⟩
    · rw [hcl] at e
      unfold runI at e
      split at e
      · unfold runF at e
        rw [hn] at e
        cases e1 : evSs Γ.cl I.body (as.map slOf ++ List.replicate (N.length - as.length) .no) st with
        | none =>
          rw [e1] at e
          cases e
        | some o =>
          rw [e1] at e
          refine .inl ⟨o, rfl, ?_⟩
          cases o with
          | rt d2 st2 =>
            cases e
            exact fun v B' H' x r pv => kk v B' H' x r (by rw [RtV.f hl.fr] at pv; exact pv)
          | nx env2 st2 =>
            cases e
            exact fun B' M' σ' H' x r => kk .non B' H' x r.bs .non
          | bk env2 st2 => cases e
          | ct env2 st2 => cases e
      · cases e
    · rw [hcx] at e
      unfold runX at e
      split at e
      · rw [hn] at e
        cases e1 : xvSs Γ.cl I.body (as.map slOf ++ List.replicate (N.length - as.length) .no) st with
        | none =>
          rw [e1] at e
          cases e
        | some z =>
          obtain ⟨er1, env1, st1⟩ := z
          rw [e1] at e
          cases e
          rw [erOf_erD] at e2
          cases e2
          refine .inr ⟨_, env1, _, rfl, fun cls d B' M' σ' H' x r z => kk cls d B' H' x r.bs ?_⟩
          obtain ⟨C, fld, u, z1, z2, z3, z4, z5, z6, z7, z8⟩ := z
          refine ⟨C, fld, u, z1, z2, z3, z4, z5, z6, ?_, z8⟩
          cases hm : M' d with
          | none => rw [uni_r hm] at z7; exact z7
          | some o => rw [uni_l hm] at z7; cases z7
      · cases e
end Ip

set_option Elab.async false
set_option linter.all false
set_option maxRecDepth 100000
set_option maxHeartbeats 4000000

set_option Elab.async false
set_option linter.all false
set_option maxRecDepth 100000
set_option maxHeartbeats 4000000

set_option Elab.async false
set_option linter.all false
set_option maxRecDepth 100000
set_option maxHeartbeats 4000000
namespace Ip
open PySem L2
def fb (cl : Cl) (j : Sg) (b : ISs) : D → List Sl → Pl → Option Out := fun d env st => match sgD j d env with
  | some env1 => evSs cl b env1 st
  | none => none
theorem fb_eq (cl : Cl) (j : Sg) (b : ISs) (d : D) (env : List Sl) (st : Pl) : fb cl j b d env st = match sgD j d env with
  | some env1 => evSs cl b env1 st
  | none => none := id rfl
def lb (cl : Cl) (j : Nat) (cs : IEs) (e : IE) (env : List Sl) : D → Pl → Option (Option D × Pl) := fun d st => match et cl cs (env.set j (.im d)) st with
  | some (true, st2) => (match ev cl e (env.set j (.im d)) st2 with
    | some (y, st3) => some (some y, st3)
    | none => none)
  | some (false, st2) => some (none, st2)
  | none => none
theorem lb_eq (cl : Cl) (j : Nat) (cs : IEs) (e : IE) (env : List Sl) (d : D) (st : Pl) : lb cl j cs e env d st = match et cl cs (env.set j (.im d)) st with
  | some (true, st2) => (match ev cl e (env.set j (.im d)) st2 with
    | some (y, st3) => some (some y, st3)
    | none => none)
  | some (false, st2) => some (none, st2)
  | none => none := id rfl
variable {cl : Cl}
@[simp] theorem q_ev_var {i} {env : List Sl} {st : Pl} : ev cl (.var i : IE) env st = (match env[i]? with
    | some (.im d) => some (d, st)
    | _ => none) := id rfl
@[simp] theorem q_ev_cst {c} {env : List Sl} {st : Pl} : ev cl (.cst c : IE) env st = some (c.d, st) := id rfl
@[simp] theorem q_ev_call {f as} {env : List Sl} {st : Pl} : ev cl (.call f as : IE) env st = (match ag cl as env st with
    | some (ds, st1) => cl f ds st1
    | none => none) := id rfl
@[simp] theorem q_ev_bi {f as} {env : List Sl} {st : Pl} : ev cl (.bi f as : IE) env st = (match ea cl as env st with
    | some (ds, st1) => (biD f ds).map fun d => (d, st1)
    | none => none) := id rfl
@[simp] theorem q_ev_bin {o a b} {env : List Sl} {st : Pl} : ev cl (.bin o a b : IE) env st = (match ev cl a env st with
    | some (x, st1) => (match ev cl b env st1 with
      | some (y, st2) => (binD o x y).map fun d => (d, st2)
      | none => none)
    | none => none) := id rfl
@[simp] theorem q_ev_cmp {o a b} {env : List Sl} {st : Pl} : ev cl (.cmp o a b : IE) env st = (match ev cl a env st with
    | some (x, st1) => (match ev cl b env st1 with
      | some (y, st2) => (cmpD o x y).map fun d => (.bool d, st2)
      | none => none)
    | none => none) := id rfl
@[simp] theorem q_ev_and {a b} {env : List Sl} {st : Pl} : ev cl (.and a b : IE) env st = (match ev cl a env st with
    | some (.bool true, st1) => ev cl b env st1
    | some (.bool false, st1) => some (.bool false, st1)
    | _ => none) := id rfl
@[simp] theorem q_ev_or {a b} {env : List Sl} {st : Pl} : ev cl (.or a b : IE) env st = (match ev cl a env st with
    | some (.bool true, st1) => some (.bool true, st1)
    | some (.bool false, st1) => ev cl b env st1
    | _ => none) := id rfl
@[simp] theorem q_ev_not {a} {env : List Sl} {st : Pl} : ev cl (.not a : IE) env st = (match ev cl a env st with
    | some (.bool b, st1) => some (.bool (!b), st1)
    | _ => none) := id rfl
@[simp] theorem q_ev_neg {a} {env : List Sl} {st : Pl} : ev cl (.neg a : IE) env st = (match ev cl a env st with
    | some (.int i, st1) => some (.int (-i), st1)
    | _ => none) := id rfl
@[simp] theorem q_ev_tup {es} {env : List Sl} {st : Pl} : ev cl (.tup es : IE) env st = (match ea cl es env st with
    | some (ds, st1) => if ds.length ≤ most then some (.tuple ds, st1) else none
    | none => none) := id rfl
@[simp] theorem q_ev_lst {es} {env : List Sl} {st : Pl} : ev cl (.lst es : IE) env st = (match ea cl es env st with
    | some (ds, st1) => if ds.length ≤ most then some (.list ds, st1) else none
    | none => none) := id rfl
@[simp] theorem q_ev_ix {a b} {env : List Sl} {st : Pl} : ev cl (.ix a b : IE) env st = (match ev cl a env st with
    | some (x, st1) => (match ev cl b env st1 with
      | some (y, st2) => (ixD x y).map fun d => (d, st2)
      | none => none)
    | none => none) := id rfl
@[simp] theorem q_ev_ifx {c a b} {env : List Sl} {st : Pl} : ev cl (.ifx c a b : IE) env st = (match ev cl c env st with
    | some (.bool true, st1) => ev cl a env st1
    | some (.bool false, st1) => ev cl b env st1
    | _ => none) := id rfl
@[simp] theorem q_ev_lc {j it cs e} {env : List Sl} {st : Pl} : ev cl (.lc j it cs e : IE) env st = (match ei cl it env st with
    | some (ds, st1) => if ds.length ≤ most then (match lcG (lb cl j cs e env) ds st1 with
      | some (ys, st4) => some (.list ys, st4)
      | none => none) else none
    | none => none) := id rfl
@[simp] theorem q_ev_olen {i} {env : List Sl} {st : Pl} : ev cl (.olen i : IE) env st = (match env[i]? with
    | some (.ow ds) => some (.int ds.length, st)
    | some (.im d) => (biD .len [d]).map fun z => (z, st)
    | _ => none) := id rfl
@[simp] theorem q_ev_pix {i k} {env : List Sl} {st : Pl} : ev cl (.pix i k : IE) env st = (match env[i]? with
    | some .pl => (st.at_ k).map fun n => (.int n, st)
    | _ => none) := id rfl
@[simp] theorem q_ev_isi {t e} {env : List Sl} {st : Pl} : ev cl (.isi t e : IE) env st = (match ev cl e env st with
    | some (x, st1) => some (.bool (isiD t x), st1)
    | none => none) := id rfl
@[simp] theorem q_ev_lento {is e} {env : List Sl} {st : Pl} : ev cl (.lento is e : IE) env st = (match ev cl e (frzE env is) st with
    | some (x, st1) => if noLst x = true then some (x, st1) else none
    | none => none) := id rfl
@[simp] theorem q_ev_con {d} {env : List Sl} {st : Pl} : ev cl (.con d : IE) env st = some (d, st) := id rfl
@[simp] theorem q_ev_tsr {i} {env : List Sl} {st : Pl} : ev cl (.tsr i : IE) env st = (match env[i]? with
    | some (.ow ds) => (srtD ds).map fun z => (z, st)
    | _ => none) := id rfl
@[simp] theorem q_ev_mx2 {a b} {env : List Sl} {st : Pl} : ev cl (.mx2 a b : IE) env st = (match ev cl a env st with
    | some (.int x, st1) => (match ev cl b env st1 with
      | some (.int y, st2) => some (.int (if y > x then y else x), st2)
      | _ => none)
    | _ => none) := id rfl
@[simp] theorem q_ev_mxl {e d} {env : List Sl} {st : Pl} : ev cl (.mxl e d : IE) env st = (match ev cl e env st with
    | some (.list xs, st1) => (match intsD xs with
      | some ns => (maxI ns d).map fun n => (.int n, st1)
      | none => none)
    | _ => none) := id rfl
@[simp] theorem q_ev_srt {e} {env : List Sl} {st : Pl} : ev cl (.srt e : IE) env st = (match ev cl e env st with
    | some (.list xs, st1) => if sortOk xs = true then some (.list (srtA xs), st1) else none
    | _ => none) := id rfl
@[simp] theorem q_ev_fld {c f e} {env : List Sl} {st : Pl} : ev cl (.fld c f e : IE) env st = (match ev cl e env st with
    | some (x, st1) => (fldD c f x).map fun d => (d, st1)
    | none => none) := id rfl
@[simp] theorem q_ev_dcin {neg i e} {env : List Sl} {st : Pl} : ev cl (.dcin neg i e : IE) env st = (match ev cl e env st with
    | some (x, st1) => (match env[i]? with
      | some s => (match dcSl s with
        | some tab => if (keyV x).isSome = true then some (.bool (neg != (dGet x tab).isSome), st1) else none
        | none => none)
      | none => none)
    | none => none) := id rfl
@[simp] theorem q_ev_oix {i e} {env : List Sl} {st : Pl} : ev cl (.oix i e : IE) env st = (match ev cl e env st with
    | some (y, st1) => (match env[i]? with
      | some (.ow ds) => (ixD (.list ds) y).map fun d => (d, st1)
      | _ => none)
    | none => none) := id rfl
@[simp] theorem q_ev_tcin {neg i e} {env : List Sl} {st : Pl} : ev cl (.tcin neg i e : IE) env st = (match ev cl e env st with
    | some (x, st1) => (match env[i]? with
      | some s => (match tcSl s with
        | some tab => if (keyT x).isSome = true then some (.bool (neg != (dGet x tab).isSome), st1) else none
        | none => none)
      | none => none)
    | none => none) := id rfl
@[simp] theorem q_ev_tcget {i e} {env : List Sl} {st : Pl} : ev cl (.tcget i e : IE) env st = (match ev cl e env st with
    | some (x, st1) => (match env[i]? with
      | some s => (match tcSl s with
        | some tab => if (keyT x).isSome = true then (dGet x tab).map fun d => (d, st1) else none
        | none => none)
      | none => none)
    | none => none) := id rfl
@[simp] theorem q_ev_tcgt1 {i e} {env : List Sl} {st : Pl} : ev cl (.tcgt1 i e : IE) env st = (match ev cl e env st with
    | some (x, st1) => (match env[i]? with
      | some s => (match tcSl s with
        | some tab => if (keyT x).isSome = true then some ((dGet x tab).getD .none, st1) else none
        | none => none)
      | none => none)
    | none => none) := id rfl
@[simp] theorem q_ev_tclen {i} {env : List Sl} {st : Pl} : ev cl (.tclen i : IE) env st = (match env[i]? with
    | some s => (match tcSl s with
      | some tab => some (.int tab.length, st)
      | none => none)
    | none => none) := id rfl
@[simp] theorem q_ev_oin {neg i e} {env : List Sl} {st : Pl} : ev cl (.oin neg i e : IE) env st = (match ev cl e env st with
    | some (x, st1) => (match env[i]? with
      | some (.ow ds) => if PySem.SeqAt.shaped x = true ∧ PySem.SeqAt.shaped (.list ds) = true then some (.bool (neg != memD x ds), st1) else none
      | _ => none)
    | none => none) := id rfl
@[simp] theorem q_ev_dsp {gs o as} {env : List Sl} {st : Pl} : ev cl (.dsp gs o as : IE) env st = (match ev cl o env st with
    | some (x, st1) => (match clsD x with
      | some c => (match gs.lookup c with
        | some g => (match ag cl as env st1 with
          | some (ds, st2) => cl g (some x :: ds) st2
          | none => none)
        | none => none)
      | none => none)
    | none => none) := id rfl
@[simp] theorem q_ea_nil  {env : List Sl} {st : Pl} : ea cl (.nil : IEs) env st = some ([], st) := id rfl
@[simp] theorem q_ea_cons {e es} {env : List Sl} {st : Pl} : ea cl (.cons e es : IEs) env st = (match ev cl e env st with
    | some (x, st1) => (match ea cl es env st1 with
      | some (xs, st2) => some (x :: xs, st2)
      | none => none)
    | none => none) := id rfl
@[simp] theorem q_ag_nil  {env : List Sl} {st : Pl} : ag cl (.nil : IEs) env st = some ([], st) := id rfl
@[simp] theorem q_ag_cons {e es} {env : List Sl} {st : Pl} : ag cl (.cons e es : IEs) env st = (match ev cl e env st with
    | some (x, st1) => (match ag cl es env st1 with
      | some (xs, st2) => some (some x :: xs, st2)
      | none => none)
    | none => none) := id rfl
@[simp] theorem q_ag_pool {i es} {env : List Sl} {st : Pl} : ag cl (.pool i es : IEs) env st = (match env[i]? with
    | some .pl => (match ag cl es env st with
      | some (xs, st2) => some (none :: xs, st2)
      | none => none)
    | _ => none) := id rfl
@[simp] theorem q_et_nil  {env : List Sl} {st : Pl} : et cl (.nil : IEs) env st = some (true, st) := id rfl
@[simp] theorem q_et_cons {e es} {env : List Sl} {st : Pl} : et cl (.cons e es : IEs) env st = (match ev cl e env st with
    | some (.bool true, st1) => et cl es env st1
    | some (.bool false, st1) => some (false, st1)
    | _ => none) := id rfl
@[simp] theorem q_ei_seq {e} {env : List Sl} {st : Pl} : ei cl (.seq e : IT) env st = (match ev cl e env st with
    | some (x, st1) => (itS x).map fun xs => (xs, st1)
    | none => none) := id rfl
@[simp] theorem q_ei_rng1 {e} {env : List Sl} {st : Pl} : ei cl (.rng1 e : IT) env st = (match ev cl e env st with
    | some (.int n, st1) => (rngD 0 n).map fun xs => (xs, st1)
    | _ => none) := id rfl
@[simp] theorem q_evS_set {i e} {env : List Sl} {st : Pl} : evS cl (.set i e : IS) env st = (match ev cl e env st with
    | some (x, st1) => some (.nx (env.set i (.im x)) st1)
    | none => none) := id rfl
@[simp] theorem q_evS_own {i e} {env : List Sl} {st : Pl} : evS cl (.own i e : IS) env st = (match ev cl e env st with
    | some (.list xs, st1) => some (.nx (env.set i (.ow xs)) st1)
    | _ => none) := id rfl
@[simp] theorem q_evS_app {i e} {env : List Sl} {st : Pl} : evS cl (.app i e : IS) env st = (match ev cl e env st with
    | some (x, st1) => (match env[i]? with
      | some (.ow ds) => if ds.length < most then some (.nx (env.set i (.ow (ds ++ [x]))) st1) else none
      | _ => none)
    | none => none) := id rfl
@[simp] theorem q_evS_iff {c a b} {env : List Sl} {st : Pl} : evS cl (.iff c a b : IS) env st = (match ev cl c env st with
    | some (.bool true, st1) => evSs cl a env st1
    | some (.bool false, st1) => evSs cl b env st1
    | _ => none) := id rfl
@[simp] theorem q_evS_forr {j it b} {env : List Sl} {st : Pl} : evS cl (.forr j it b : IS) env st = (match ei cl it env st with
    | some (ds, st1) => forG (fb cl j b) ds env st1
    | none => none) := id rfl
@[simp] theorem q_evS_ret {e} {env : List Sl} {st : Pl} : evS cl (.ret e : IS) env st = (match ev cl e env st with
    | some (x, st1) => some (.rt x st1)
    | none => none) := id rfl
@[simp] theorem q_evS_oset {i k e} {env : List Sl} {st : Pl} : evS cl (.oset i k e : IS) env st = (match ev cl e env st with
    | some (x, st1) => (match env[i]? with
      | some (.ow ds) => if k < ds.length then some (.nx (env.set i (.ow (ds.set k x))) st1) else none
      | _ => none)
    | none => none) := id rfl
@[simp] theorem q_evS_frz {is s} {env : List Sl} {st : Pl} : evS cl (.frz is s : IS) env st = evS cl s (frzE env is) st := id rfl
@[simp] theorem q_evS_calm {s} {env : List Sl} {st : Pl} : evS cl (.calm s : IS) env st = evS cl s env st := id rfl
@[simp] theorem q_evS_tnew {j} {env : List Sl} {st : Pl} : evS cl (.tnew j : IS) env st = some (.nx (env.set j (.od true [])) st) := id rfl
@[simp] theorem q_evS_tput {i a e} {env : List Sl} {st : Pl} : evS cl (.tput i a e : IS) env st = (match ev cl e env st with
    | some (x, st1) => (match ev cl a env st1 with
      | some (y, st2) => (match env[i]? with
        | some (.od true tab) => if (keyT y).isSome = true ∧ tab.length < most then some (.nx (env.set i (.od true (dPut tab y x))) st2) else none
        | _ => none)
      | none => none)
    | none => none) := id rfl
@[simp] theorem q_evS_lockd {is} {env : List Sl} {st : Pl} : evS cl (.lockd is : IS) env st = some (.nx (frzdE env is) st) := id rfl
@[simp] theorem q_evS_whr {c b} {env : List Sl} {st : Pl} : evS cl (.whr c b : IS) env st = whG (fun env st => ev cl c env st) (fun env st => evSs cl b env st) most env st := id rfl
@[simp] theorem q_evSs_nil  {env : List Sl} {st : Pl} : evSs cl (.nil : ISs) env st = some (.nx env st) := id rfl
@[simp] theorem q_evSs_cons {s r} {env : List Sl} {st : Pl} : evSs cl (.cons s r : ISs) env st = (match evS cl s env st with
    | some (.nx env1 st1) => evSs cl r env1 st1
    | some o => some o
    | none => none) := id rfl
end Ip

set_option Elab.async false
set_option linter.all false
set_option maxRecDepth 100000
set_option maxHeartbeats 4000000
namespace Cm
open PySem Ip
def I_law_mixed : IF := ⟨6, (.cons (.set 3 (.bin .mod (.bi .int (.cons (.bin .add (.bin .add (.bin .mul (.var 0) (.cst (.int 48271))) (.bin .mul (.var 1) (.cst (.int 69621)))) (.cst (.int 11))) .nil)) (.cst (.int 2147483647))))
  (.cons (.set 4 (.bin .mod (.bi .int (.cons (.bin .add (.bin .add (.bin .mul (.var 3) (.cst (.int 40692))) (.bin .mul (.var 0) (.cst (.int 16807)))) (.bin .mul (.var 1) (.cst (.int 30269)))) .nil)) (.cst (.int 2147483399))))
  (.cons (.set 5 (.bin .mod (.bi .int (.cons (.bin .add (.bin .mul (.var 4) (.cst (.int 39373))) (.bin .fdv (.var 3) (.cst (.int 7)))) .nil)) (.cst (.int 1000000007))))
  (.cons (.ret (.bin .mod (.bi .int (.cons (.var 5) .nil)) (.var 2)))
  .nil))))⟩
def I_law_draw : IF := ⟨4, (.cons (.iff (.cmp .gt (.pix 0 2) (.cst (.int 0))) (.cons (.set 2 (.bin .mod (.bi .int (.cons (.pix 0 2) .nil)) (.var 1)))
  (.cons (.pput 0 2 (.bin .fdv (.pix 0 2) (.var 1)))
  (.cons (.ret (.var 2))
  .nil))) .nil)
  (.cons (.iff (.cmp .gt (.pix 0 4) (.cst (.int 0))) (.cons (.pput 0 4 (.bin .sub (.pix 0 4) (.cst (.int 1))))
  (.cons (.ret (.call "_law_mixed" (.cons (.pix 0 3) (.cons (.pix 0 4) (.cons (.var 1) .nil)))))
  .nil)) .nil)
  (.cons (.iff (.cmp .ge (.pix 0 1) (.plen 0)) (.cons (.ret (.cst (.int 0)))
  .nil) .nil)
  (.cons (.set 3 (.pcel 0))
  (.cons (.pput 0 1 (.bin .add (.pix 0 1) (.cst (.int 1))))
  (.cons (.iff (.cmp .lt (.var 3) (.cst (.int 0))) (.cons (.set 3 (.bin .sub (.neg (.cst (.int 1))) (.var 3)))
  .nil) .nil)
  (.cons (.iff (.cmp .ge (.var 3) (.bin .pow (.cst (.int 10)) (.cst (.int 18)))) (.cons (.pput 0 2 (.bin .fdv (.var 3) (.var 1)))
  (.cons (.ret (.bin .mod (.bi .int (.cons (.var 3) .nil)) (.var 1)))
  .nil)) .nil)
  (.cons (.pput 0 3 (.var 3))
  (.cons (.pput 0 4 (.cst (.int 7)))
  (.cons (.ret (.call "_law_mixed" (.cons (.var 3) (.cons (.cst (.int 7)) (.cons (.var 1) .nil)))))
  .nil))))))))))⟩
def I_law_is_int : IF := ⟨1, (.cons (.ret (.and (.isi .int (.var 0)) (.not (.isi .bool (.var 0)))))
  .nil)⟩
def I_law_same : IF := ⟨3, (.cons (.iff (.cmp .isN (.var 1) (.cst .non)) (.cons (.ret (.cmp .isN (.var 0) (.cst .non)))
  .nil) .nil)
  (.cons (.iff (.isi .bool (.var 1)) (.cons (.ret (.and (.isi .bool (.var 0)) (.cmp .eq (.var 0) (.var 1))))
  .nil) .nil)
  (.cons (.iff (.isi .int (.var 1)) (.cons (.ret (.and (.call "_law_is_int" (.cons (.var 0) .nil)) (.cmp .eq (.var 0) (.var 1))))
  .nil) .nil)
  (.cons (.iff (.isi .str (.var 1)) (.cons (.ret (.and (.isi .str (.var 0)) (.cmp .eq (.var 0) (.var 1))))
  .nil) .nil)
  (.cons (.iff (.and (.isi .list (.var 1)) (.not (.isi .list (.var 0)))) (.cons (.ret (.cst (.bl false)))
  .nil) .nil)
  (.cons (.iff (.and (.isi .tuple (.var 1)) (.not (.isi .tuple (.var 0)))) (.cons (.ret (.cst (.bl false)))
  .nil) .nil)
  (.cons (.iff (.cmp .ne (.bi .len (.cons (.var 0) .nil)) (.bi .len (.cons (.var 1) .nil))) (.cons (.ret (.cst (.bl false)))
  .nil) .nil)
  (.cons (.forr (.one 2) (.rng1 (.bi .len (.cons (.var 1) .nil))) (.cons (.iff (.not (.call "_law_same" (.cons (.ix (.var 0) (.var 2)) (.cons (.ix (.var 1) (.var 2)) .nil)))) (.cons (.ret (.cst (.bl false)))
  .nil) .nil)
  .nil))
  (.cons (.ret (.cst (.bl true)))
  .nil)))))))))⟩
end Cm

set_option Elab.async false
set_option linter.all false
set_option maxRecDepth 100000
set_option maxHeartbeats 4000000

set_option Elab.async false
set_option linter.all false
set_option maxRecDepth 100000
set_option maxHeartbeats 4000000
namespace Ip
open PySem L2 PySem.W He NdefX
def SaysF (P : Program) (fa : List Fa) (fn : List DefD) (er : List ErrD) (ex : Frag → Bool) (K : Frag) : Prop := obsF P fa fn er ex K = valF fn er
theorem SaysF.e {P : Program} {fa : List Fa} {fn : List DefD} {er : List ErrD} {ex : Frag → Bool} {K : Frag} (c : SaysF P fa fn er ex K) : SaysE P fa fn er K := congrArg (fun z : AlF => z.1) c
theorem SaysF.d {P : Program} {fa : List Fa} {fn : List DefD} {er : List ErrD} {ex : Frag → Bool} {K : Frag} (c : SaysF P fa fn er ex K) : SaysD fa fn K := c.e.old
theorem SaysF.ex {P : Program} {fa : List Fa} {fn : List DefD} {er : List ErrD} {ex : Frag → Bool} {K : Frag} (c : SaysF P fa fn er ex K) : ex K = true := congrArg (fun z : AlF => z.2) c
theorem excB_ok {K : Frag} {D : Addr} (h : excB K D = true) : ExcC K D := by
  unfold excB at h
  simp only [Bool.and_eq_true, decide_eq_true_eq] at h
  obtain ⟨h1, h2, h3, h4, h5, h6, h7, h8⟩ := h
  exact ⟨eqO_ok h1, eqO_ok h2, h3, h4, eqO_ok h5, eqO_ok h6, h7, h8⟩
theorem errFacts_of {Γ : Gam} {K : Frag} {mg : Str → Option Value} (own : List Str) (bn : List (Str × String)) (hb : errsB bn Γ.es Γ.ks Γ.ts K = true) (hg : ∀ x ∈ own, mg x = some (.ref (ga K x)))
    (h1 : (Γ.es.all fun q => own.contains q.1) = true) (h2 : (Γ.ks.all fun q => own.contains q.1 && ((bn.lookup q.2.1).isSome || own.contains q.2.1)) = true) (h3 : (Γ.ts.all fun q => own.contains q.1 && own.contains q.2.1) = true)
    (hn : ∀ x n, bn.lookup x = some n → mg x = none ∧ bootBuiltins x = some (.type n) ∧ x ≠ "__name__") (gc : ∀ q ∈ Γ.gs, ∃ u v, mg q.1 = some u ∧ RelV v u ∧ ∀ B, Rp K B v q.2) : ErrFacts Γ K mg where
  cl := fun q hq C hC => by
    obtain ⟨b1, _⟩ := Bool.and_eq_true_iff.mp hb
    have z := List.all_eq_true.mp b1 q hq
    simp only [Bool.and_eq_true] at z
    obtain ⟨z1, z2, z3⟩ := z
    rw [hg _ (List.contains_iff_mem.mp (List.all_eq_true.mp h1 q hq))] at hC
    cases hC
    exact ⟨xfB_ok z1, excB_ok z2, eqO_ok z3⟩
  ki := fun q hq C hC => by
    obtain ⟨_, b2⟩ := Bool.and_eq_true_iff.mp hb
    obtain ⟨b2, _⟩ := Bool.and_eq_true_iff.mp b2
    have z := of_decide_eq_true (List.all_eq_true.mp b2 q hq)
    have y := List.all_eq_true.mp h2 q hq
    simp only [Bool.and_eq_true] at y
    obtain ⟨y1, y2⟩ := y
    rw [hg _ (List.contains_iff_mem.mp y1)] at hC
    cases hC
    unfold clsV at z
    cases e : bn.lookup q.2.1 with
    | some n =>
      rw [e] at z
      obtain ⟨n1, n2, n3⟩ := hn _ _ e
      exact .inr ⟨n, n1, n2, n3, z⟩
    | none =>
      rw [e] at z y2
      exact .inl ⟨_, hg _ (List.contains_iff_mem.mp (by simpa using y2)), z⟩
  tr := fun q hq C hC => by
    obtain ⟨_, b2⟩ := Bool.and_eq_true_iff.mp hb
    obtain ⟨_, b3⟩ := Bool.and_eq_true_iff.mp b2
    have z := of_decide_eq_true (List.all_eq_true.mp b3 q hq)
    have y := List.all_eq_true.mp h3 q hq
    simp only [Bool.and_eq_true] at y
    rw [hg _ (List.contains_iff_mem.mp y.1)] at hC
    cases hC
    exact ⟨_, hg _ (List.contains_iff_mem.mp y.2), z⟩
  gc := gc
end Ip

set_option Elab.async false
set_option linter.all false
set_option maxRecDepth 100000
set_option maxHeartbeats 4000000

set_option Elab.async false
set_option linter.all false
set_option maxRecDepth 100000
set_option maxHeartbeats 4000000

set_option Elab.async false
set_option linter.all false
set_option maxRecDepth 100000
set_option maxHeartbeats 4000000

set_option Elab.async false
set_option linter.all false
set_option maxRecDepth 100000
set_option maxHeartbeats 4000000

set_option Elab.async false
set_option linter.all false
set_option maxRecDepth 100000
set_option maxHeartbeats 4000000

set_option Elab.async false
set_option linter.all false
set_option maxRecDepth 100000
set_option maxHeartbeats 4000000
namespace Ip
open PySem L2
theorem list_se {Γ : Gam} {e : Expr} {i : IE} {p0 pos : Pos} (h : SE Γ e i) (hb : Γ.bs.contains "list" = true := by rfl) (hg : GlS Γ.sc "list" := by rfl) (hs : ∀ env, starEach [e] env = (false, eval e env) :: starEach [] env := by intro _; rfl) :
    SE Γ (.Call (.Name "list" p0) [e] [] pos) (.bi .list (.cons i .nil)) := fun X p o =>
  PE_weak (pe_callTy call_list_of (o.gl hg) (o.bl _ (List.contains_iff_mem.mp hb)) (by decide +kernel) ((sa_cons h sa_nil hs) X p o) (by decide) (by decide) (hs _) rfl) fun σ H Q q => by
    refine tx_bi ?_ q
    intro st B M F env v d z H r pv e2 Q k
    rw [o.K]
    cases pv with
    | @lst a xs ds hx rx =>
      cases e2
      exact ⟨a, xs, rfl, .inl (Or.inl (Or.inl (r.bs.b _ _ hx))), fun l hl => k (.ref l) _ _ (Ex.new (r.bs.b.free hl)) (r.new hl) (.lst upd_same (rx.mono (Ex.new (r.bs.b.free hl))))⟩
    | @tup a xs ds hx rx =>
      cases e2
      exact ⟨a, xs, rfl, .inr (sqt_mono r.bs.b hx), fun l hl => k (.ref l) _ _ (Ex.new (r.bs.b.free hl)) (r.new hl) (.lst upd_same (rx.mono (Ex.new (r.bs.b.free hl))))⟩
    | _ => cases e2
section
variable {P : Program} {w : World} {K : PySem.W.Frag} {mg : Str → Option Value} {base : Heap}
theorem Fo.up {j k : Nat} {cl : Cl} {f : Str} (h : Fo P w K mg base j cl f) (l : j ≤ k) : Fo P w K mg base k cl f := by
  obtain ⟨fa, fd, ps, F, q⟩ := h
  exact ⟨fa, fd, ps, F.mono l, q⟩
end
end Ip

set_option Elab.async false
set_option linter.all false
set_option maxRecDepth 100000
set_option maxHeartbeats 4000000

set_option Elab.async false
set_option linter.all false
set_option maxRecDepth 100000
set_option maxHeartbeats 4000000

set_option Elab.async false
set_option linter.all false
set_option maxRecDepth 100000
set_option maxHeartbeats 4000000
namespace Cm
open PySem Ip L2
structure Pok (C : List (List D)) (s : Pl) : Prop where
  i0 : 0 ≤ s.i
  c0 : 0 ≤ s.c
  c1 : s.c < 10 ^ 18
  l1 : s.l ≤ 7
  e : s.cs = C
def MixedOk (cl : Cl) : Prop := ∀ (c t lim : Int) (st : Pl), 0 ≤ c → c < 10 ^ 18 → 0 ≤ t → t ≤ 7 → 0 < lim → ∃ r, cl "_law_mixed" [some (.int c), some (.int t), some (.int lim)] st = some (.int r, st) ∧ 0 ≤ r ∧ r < lim
def DrawOk (cl : Cl) : Prop := ∀ {C : List (List D)} (lim : Int) (st : Pl), Pok C st → 0 < lim → lim < 1073741824 → ∃ r st', cl "_law_draw" [none, some (.int lim)] st = some (.int r, st') ∧ 0 ≤ r ∧ r < lim ∧ Pok C st'
theorem mixed_run (cl : Cl) (c t lim : Int) (st : Pl) (h0 : 0 ≤ c) (h1 : c < 10 ^ 18) (h2 : 0 ≤ t) (h3 : t ≤ 7) (h4 : 0 < lim) : ∃ r, runI 3 cl I_law_mixed [some (.int c), some (.int t), some (.int lim)] st = some (.int r, st) ∧ 0 ≤ r ∧ r < lim := by
  have g1 : c.natAbs < 2 ^ 64 := by omega
  have g2 : t.natAbs < 2 ^ 64 := by omega
  simp [runI, runF, I_law_mixed, evSs, evS, ev, ea, slOf, binD, biD, Cst.d, g1, g2, h4]
  exact ⟨Int.emod_nonneg _ (by omega), Int.emod_lt_of_pos _ h4⟩
theorem draw_run {cl : Cl} (hm : MixedOk cl) (lim : Int) (st : Pl) {C : List (List D)} (h : Pok C st) (h0 : 0 < lim) (h1 : lim < 1073741824) : ∃ r st', runI 2 cl I_law_draw [none, some (.int lim)] st = some (.int r, st') ∧ 0 ≤ r ∧ r < lim ∧ Pok C st' := by
  obtain ⟨ns, i, r, c, l, cs⟩ := st
  obtain ⟨i0, c0, c1, l1, hcs⟩ := h
  simp only at i0 c0 c1 l1
  by_cases hr : 0 < r
  · refine ⟨r % lim, ⟨ns, i, r / lim, c, l, cs⟩, ?_, Int.emod_nonneg _ (by omega), Int.emod_lt_of_pos _ h0, i0, c0, c1, l1, hcs⟩
    simp [runI, runF, I_law_draw, evSs, evS, ev, ea, ag, slOf, binD, biD, cmpD, Cst.d, Pl.at_, Pl.put, hr, h0, h1]
  · by_cases hl : 0 < l
    · obtain ⟨q, e, q0, q1⟩ := hm c (l - 1) lim ⟨ns, i, r, c, l - 1, cs⟩ c0 c1 (by omega) (by omega) h0
      refine ⟨q, ⟨ns, i, r, c, l - 1, cs⟩, ?_, q0, q1, i0, c0, c1, by show l - 1 ≤ 7; omega, hcs⟩
      simp [runI, runF, I_law_draw, evSs, evS, ev, ea, ag, slOf, binD, biD, cmpD, Cst.d, Pl.at_, Pl.put, hr, hl, h0, h1, e]
    · by_cases hi : (ns.length : Int) ≤ i
      · refine ⟨0, ⟨ns, i, r, c, l, cs⟩, ?_, Int.le_refl 0, h0, i0, c0, c1, l1, hcs⟩
        simp [runI, runF, I_law_draw, evSs, evS, ev, ea, ag, slOf, binD, biD, cmpD, Cst.d, Pl.at_, Pl.put, hr, hl, h0, h1, hi]
      · have hlt : i.toNat < ns.length := by omega
        have ha : atI ns i = some ns[i.toNat] := by
          unfold atI ixN
          rw [if_pos i0, if_pos (by omega)]
          show ns[i.toNat]? = _
          exact List.getElem?_eq_getElem hlt
        generalize hx : ns[i.toNat] = x at ha
        have key : ∀ y : Int, 0 ≤ y → (if x < 0 then -1 - x else x) = y → ∃ r' st', runI 2 cl I_law_draw [none, some (.int lim)] ⟨ns, i, r, c, l, cs⟩ = some (.int r', st') ∧ 0 ≤ r' ∧ r' < lim ∧ Pok C st' := fun y y0 ey => by
          by_cases hy : (10 : Int) ^ 18 ≤ y
          · by_cases hn : x < 0
            · rw [if_pos hn] at ey
              have hy2 : (1000000000000000000 : Int) ≤ -1 - x := by omega
              refine ⟨(-1 - x) % lim, ⟨ns, i + 1, (-1 - x) / lim, c, l, cs⟩, ?_, Int.emod_nonneg _ (by omega), Int.emod_lt_of_pos _ h0, by show 0 ≤ i + 1; omega, c0, c1, l1, hcs⟩
              simp [runI, runF, I_law_draw, evSs, evS, ev, ea, ag, slOf, binD, biD, cmpD, Cst.d, Pl.at_, Pl.put, hr, hl, h0, h1, hi, ha, hn, hy2]
            · rw [if_neg hn] at ey
              have hy2 : (1000000000000000000 : Int) ≤ x := by omega
              refine ⟨x % lim, ⟨ns, i + 1, x / lim, c, l, cs⟩, ?_, Int.emod_nonneg _ (by omega), Int.emod_lt_of_pos _ h0, by show 0 ≤ i + 1; omega, c0, c1, l1, hcs⟩
              simp [runI, runF, I_law_draw, evSs, evS, ev, ea, ag, slOf, binD, biD, cmpD, Cst.d, Pl.at_, Pl.put, hr, hl, h0, h1, hi, ha, hn, hy2]
          · obtain ⟨q, e, q0, q1⟩ := hm y 7 lim ⟨ns, i + 1, r, y, 7, cs⟩ y0 (by omega) (by omega) (by omega) h0
            by_cases hn : x < 0
            · rw [if_pos hn] at ey
              subst ey
              have hy2 : ¬ (1000000000000000000 : Int) ≤ -1 - x := by omega
              refine ⟨q, ⟨ns, i + 1, r, -1 - x, 7, cs⟩, by simp [runI, runF, I_law_draw, evSs, evS, ev, ea, ag, slOf, binD, biD, cmpD, Cst.d, Pl.at_, Pl.put, hr, hl, h0, h1, hi, ha, hn, hy2, e], q0, q1, by show 0 ≤ i + 1; omega, y0, by show -1 - x < 10 ^ 18; omega, by show (7 : Int) ≤ 7; omega, hcs⟩
            · rw [if_neg hn] at ey
              subst ey
              have hy2 : ¬ (1000000000000000000 : Int) ≤ x := by omega
              refine ⟨q, ⟨ns, i + 1, r, x, 7, cs⟩, by simp [runI, runF, I_law_draw, evSs, evS, ev, ea, ag, slOf, binD, biD, cmpD, Cst.d, Pl.at_, Pl.put, hr, hl, h0, h1, hi, ha, hn, hy2, e], q0, q1, by show 0 ≤ i + 1; omega, y0, by show x < 10 ^ 18; omega, by show (7 : Int) ≤ 7; omega, hcs⟩
        by_cases hn : x < 0
        · exact key (-1 - x) (by omega) (if_pos hn)
        · exact key x (by omega) (if_neg hn)
end Cm

set_option Elab.async false
set_option linter.all false
set_option maxRecDepth 100000
set_option maxHeartbeats 4000000
namespace Cm
open PySem Ip L2
theorem char_inj : ∀ {a b : List Char}, a.map Char.toNat = b.map Char.toNat → a = b
  | [], [], _ => rfl
  | x :: a, y :: b, h => by
    simp only [List.map_cons, List.cons.injEq] at h
    have e : x = y := Char.ext (by
      have h1 : x.val.toNat = y.val.toNat := h.1
      exact UInt32.toNat_inj.mp h1)
    rw [e, char_inj h.2]
  | [], _ :: _, h => by simp at h
  | _ :: _, [], h => by simp at h
@[simp] theorem ofString_inj (a b : String) : (Str.ofString a = Str.ofString b) ↔ a = b := by
  constructor
  · intro h
    rw [Str.ofString_eq_toList, Str.ofString_eq_toList] at h
    have h2 : a.toList.map Char.toNat = b.toList.map Char.toNat := by simpa using congrArg (fun s => s.cps.toList) h
    have h3 := char_inj h2
    rw [← String.ofList_toList (s := a), ← String.ofList_toList (s := b), h3]
  · rintro rfl
    rfl
theorem forG_or {f : D → List Sl → Pl → Option Out} (I : Nat → List Sl → Pl → Prop) (R : D → Pl → Prop) : ∀ (ds : List D) (n : Nat) (env : List Sl) (st : Pl), I n env st →
    (∀ i d env st, ds[i]? = some d → I (n + i) env st → (∃ env' st', (f d env st = some (.nx env' st') ∨ f d env st = some (.ct env' st')) ∧ I (n + i + 1) env' st') ∨ (∃ v st', f d env st = some (.rt v st') ∧ R v st')) →
    (∃ env' st', forG f ds env st = some (.nx env' st') ∧ I (n + ds.length) env' st') ∨ (∃ v st', forG f ds env st = some (.rt v st') ∧ R v st')
  | [], n, env, st, h, _ => .inl ⟨env, st, rfl, h⟩
  | d :: ds, n, env, st, h, hs => by
    rcases hs 0 d env st rfl h with ⟨env1, st1, e, h1⟩ | ⟨v, st1, e, h1⟩
    · have ih := forG_or I R ds (n + 1) env1 st1 h1 fun i d' env' st' hi h' => by
        have h2 := hs (i + 1) d' env' st' (by simpa using hi) (by
          have e2 : n + (i + 1) = n + 1 + i := by omega
          rw [e2]
          exact h')
        have e2 : n + (i + 1) + 1 = n + 1 + i + 1 := by omega
        rw [e2] at h2
        exact h2
      have e2 : n + (d :: ds).length = n + 1 + ds.length := by simp; omega
      rw [e2]
      rcases e with e | e
      · unfold forG
        rw [e]
        exact ih
      · unfold forG
        rw [e]
        exact ih
    · refine .inr ⟨v, st1, ?_, h1⟩
      unfold forG
      rw [e]
theorem forG_nx {f : D → List Sl → Pl → Option Out} (I : Nat → List Sl → Pl → Prop) (ds : List D) (env : List Sl) (st : Pl) (h : I 0 env st)
    (hs : ∀ i d env st, ds[i]? = some d → I i env st → ∃ env' st', f d env st = some (.nx env' st') ∧ I (i + 1) env' st') : ∃ env' st', forG f ds env st = some (.nx env' st') ∧ I ds.length env' st' := by
  have h1 := forG_or (f := f) I (fun _ _ => False) ds 0 env st h fun i d env st hi h' => by
    rw [Nat.zero_add] at h' ⊢
    obtain ⟨env', st', e, h2⟩ := hs i d env st hi h'
    exact .inl ⟨env', st', .inl e, h2⟩
  rcases h1 with ⟨env', st', e, h2⟩ | ⟨_, _, _, h2⟩
  · rw [Nat.zero_add] at h2
    exact ⟨env', st', e, h2⟩
  · exact h2.elim
theorem rngD_nat {n : Int} (h0 : 0 ≤ n) (h1 : n ≤ 100000) : rngD 0 n = some ((List.range n.toNat).map fun (k : Nat) => PyData.int (k : Int)) := by
  unfold rngD
  rw [if_pos (by omega), Int.sub_zero]
  simp
theorem atI_of {α : Type} {xs : List α} {r : Int} (h0 : 0 ≤ r) (h1 : r < xs.length) : atI xs r = some (xs[r.toNat]'(by omega)) := by
  unfold atI ixN
  rw [if_pos h0, if_pos h1]
  exact List.getElem?_eq_getElem _
end Cm

set_option Elab.async false
set_option linter.all false
set_option maxRecDepth 100000
set_option maxHeartbeats 4000000

set_option Elab.async false
set_option linter.all false
set_option maxRecDepth 100000
set_option maxHeartbeats 4000000

set_option Elab.async false
set_option linter.all false
set_option maxRecDepth 100000
set_option maxHeartbeats 4000000

set_option Elab.async false
set_option linter.all false
set_option maxRecDepth 100000
set_option maxHeartbeats 4000000

set_option Elab.async false
set_option linter.all false
set_option maxRecDepth 100000
set_option maxHeartbeats 4000000
namespace Ip
open PySem PySem.Spec PyProof.Rows L2
section
variable {Γ : Gam} {e a b c : Expr} {ia ib ic i : IE} {pos p0 p1 : Pos}
theorem mx2_se (ha : SE Γ a ia) (hc : SE Γ b ib) (hh : Γ.hot = false := by rfl) (hb : Γ.bs.contains "max" = true := by rfl) (hg : GlS Γ.sc "max" := by rfl) (hs : ∀ env, starEach [a, b] env = (false, eval a env) :: starEach [b] env := by intro _; rfl) (hs2 : ∀ env, starEach [b] env = (false, eval b env) :: starEach [] env := by intro _; rfl)
    (hpl : ∀ env, (backTo pos (starEach [b] env)).any (·.1) = false := by intro _; rfl) : SE Γ (.Call (.Name "max" p0) [a, b] [] pos) (.mx2 ia ib) := fun X p o =>
  PE_weak (pe_callB (call_max2 (o.calm hh)) (o.gl hg) (o.bl _ (List.contains_iff_mem.mp hb)) (by decide +kernel) ((sa_cons ha (sa_cons hc sa_nil hs2) hs) X p o) (by decide) (by decide) (hs _) (hpl _)) fun σ H Q q => by
    obtain ⟨st, B, M, F, env, d, st', r, he, k⟩ := q
    unfold ev at he
    split at he
    · rename_i x st1 e1
      split at he
      · rename_i y st2 e2
        cases he
        refine ⟨st, B, M, F, env, [.int x, .int y], _, r, by unfold ea; rw [e1]; unfold ea; simp only [e2]; rfl, fun vs B1 H1 x1 r1 pv => ?_⟩
        match vs, pv with
        | [_, _], .cons (.int _) (.cons (.int _) .nil) => exact ⟨x, y, rfl, k _ B1 H1 x1 r1 (.int _)⟩
      · cases he
    · cases he
end
end Ip

set_option Elab.async false
set_option linter.all false
set_option maxRecDepth 100000
set_option maxHeartbeats 4000000
namespace PySem.SeqAt
open PySem PySem.Calls PyProof.Rows
theorem call_tupLt {prog : Program} {w : World} {A : Around} {s : Shared} {E Q : Value → Shared → Prop} {l b : Addr} {xs ys : Array Value} {e r : Nat → Bool} (hl : s.heap.IsTuple l xs) (hb : s.heap.IsTuple b ys)
    (he : ∀ j (h1 : j < xs.size) (h2 : j < ys.size), EqAt A.in1 s xs[j] ys[j] (e j)) (hr : ∀ j (h1 : j < xs.size) (h2 : j < ys.size), e j = false → RcLt A.in1 s xs[j] ys[j] (r j))
    (h : Q (.bool (firstLt e r (decide (xs.size < ys.size)) (List.range (min xs.size ys.size)))) s) : wpAny (model prog w) A (call (.builtin "tuple.__lt__") [.ref l, .ref b]) Q E s := by
  obtain ⟨⟨c1, d1, t1, s1⟩, g1, z1, n1, y1⟩ := id hl
  obtain ⟨⟨c2, d2, t2, s2⟩, g2, z2, n2, y2⟩ := id hb
  simp only at z1 y1 z2 y2
  subst z1 y1 z2 y2
  exact call_meets F.slot_tuple_lt ⟨_, g1, rfl⟩ F.entry_tuple_lt (F.args_tuple_lt_2 _ _) (tuple_ltAt l b xs ys n1 n2 d1 d2 s1 s2 e r) ⟨g1, g2, he, hr, h⟩
end PySem.SeqAt
namespace Ip
open PySem PySem.W PySem.Calls PySem.SeqAt PyProof.Rows
section
variable {prog : Program} {w : World} {A : Around} {s : Shared}
theorem one_tup {xs ys : List PyData} {a b : Value} {as bs : List Addr} {E : Value → Shared → Prop} {Q : Bool → Shared → Prop} (ra : Reads s.heap a (.tuple xs) as) (rb : Reads s.heap b (.tuple ys) bs) (h : alike (.tuple xs) (.tuple ys) = true)
    (hu : A.units + min (PyData.tuple xs).depth (PyData.tuple ys).depth < cLine) (hq : Q (dataLt (.tuple xs) (.tuple ys)) s) : wpAny (model prog w) A (oneLt' true a b) Q E s := by
  have hal : alikeAll xs ys = true := by simpa [alike] using h
  cases ra with
  | @tuple l o vs n _ _ h1 h2 h3 h4 =>
    cases rb with
    | @tuple l' o' vs' n' _ _ k1 k2 k3 k4 =>
      have n1 : vs.size = xs.length := by simpa using ReadsAll.length _ _ _ h4
      have n2 : vs'.size = ys.length := by simpa using ReadsAll.length _ _ _ k4
      rw [dataLt_tuple, ← firstLt_toks xs ys hal, ← n1, ← n2] at hq
      rw [oneLt'_eq]
      simp only [if_true]
      refine wpAny_bind (wpAny_cRoomFor (room_here hu) ?_)
      refine wpAny_bind (wpAny_callSpecialIfBound?_slot (T := "tuple") ⟨_, h1, h2⟩ F.slot_tuple_lt (call_tupLt (e := pairEq xs ys) (r := fun j => dataLt (xs.getD j .none) (ys.getD j .none)) ⟨_, h1, h2, _, h3⟩ ⟨_, k1, k2, _, k3⟩ (fun j j1 j2 => ?_) (fun j j1 j2 hj => ?_) ?_))
      · have := eqAt_alikeAll xs ys A.in1 s vs.toList vs'.toList _ _ h4 k4 hal (room_in hu) j (by simpa using j1) (by simpa using j2)
        simpa using this
      · have := rcLt_alikeAll xs ys A.in1 s vs.toList vs'.toList _ _ h4 k4 hal (room_in hu) j (by simpa using j1) (by simpa using j2) hj
        simpa using this
      · exact wpAny_truthy_bool hq
/-- what the first places of tuples are -/
def fstT : PyData → Option PyData
  | .tuple (x :: _) => some x
  | _ => none
theorem firsts_any {E : Value → Shared → Prop} : ∀ {vs : List Value} {ds : List PyData} {Q : List (Option Value) → Shared → Prop}, EachIs (fun v d => ∃ as, Reads s.heap v d as) vs ds → (∀ d ∈ ds, ∃ xs, d = .tuple xs) →
    (∀ fs : List (Option Value), fs.map (·.isSome) = ds.map (fun d => (fstT d).isSome) → Q fs s) → wpAny (model prog w) A (vs.mapM firstOfTuple') Q E s
  | _, _, Q, .nil, _, h => by
    rw [List.mapM_nil]
    exact wpAny_pure (h [] rfl)
  | _, _, Q, .cons (b := d) ⟨as, r⟩ t, ht, h => by
    obtain ⟨xs, rfl⟩ := ht d List.mem_cons_self
    rw [List.mapM_cons]
    refine wpAny_bind ?_
    rw [kas_first_eq]
    cases r with
    | @tuple l o vs n _ _ h1 h2 h3 h4 =>
      refine wpAny_bind (Looks.here (show Looks _ s.heap (typeOf (.ref l)) o.cls from (Looks.ld h1).andThen .now) ?_)
      rw [h2, if_neg (by first | decide | simp)]
      refine wpAny_bind (listItems_at h1 h3 (wpAny_pure ?_))
      refine wpAny_bind (firsts_any t (fun e he => ht e (List.mem_cons_of_mem _ he)) fun fs hf => wpAny_pure (h _ ?_))
      rw [List.map_cons, List.map_cons, hf]
      congr 1
      have n1 : vs.size = xs.length := by simpa using ReadsAll.length _ _ _ h4
      cases xs with
      | nil =>
        have e0 : vs[0]? = none := Array.getElem?_eq_none (by rw [n1]; exact Nat.zero_le _)
        rw [e0]
        rfl
      | cons x r =>
        have lt : 0 < vs.size := by rw [n1]; exact Nat.succ_pos _
        rw [Array.getElem?_eq_getElem lt]
        rfl
theorem SortsAt.tup0 {vs : List Value} {r : List PyData} (e : EachIs (fun v d => ∃ as, Reads s.heap v d as) vs (.tuple [] :: r)) (hal : AllAlike (.tuple [] :: r)) (ht : ∀ d ∈ r, ∃ xs, d = .tuple xs) (hu : ∀ d, d ∈ PyData.tuple [] :: r → A.units + d.depth < cLine) :
    SortsAt prog w A s (dataKind s.heap (.tuple [] :: r)) vs := by
  have room : ∀ {d d' : PyData}, d ∈ PyData.tuple [] :: r → A.units + min d.depth d'.depth < cLine := fun {d d'} hd => Nat.lt_of_le_of_lt (Nat.add_le_add_left (Nat.min_le_left _ _) _) (hu d hd)
  have ht2 : ∀ d ∈ PyData.tuple [] :: r, ∃ xs, d = .tuple xs := fun d hd => by
    rcases List.mem_cons.mp hd with rfl | hd
    · exact ⟨[], rfl⟩
    · exact ht d hd
  refine ⟨fun v hv => ?_, oneType', ?_, fun h2 E Q hq => ?_⟩
  · obtain ⟨d, hd, as, q⟩ := e.left v hv
    exact ⟨_, dataKind_some hal hd q⟩
  · intro E x y a b Q ha hb hq
    obtain ⟨d, as, hd, ra, rfl⟩ := dataKind_inv ha
    obtain ⟨d', as', hd', rb, rfl⟩ := dataKind_inv hb
    rw [keyLt'_oneType]
    obtain ⟨xs, rfl⟩ := ht2 d hd
    obtain ⟨ys, rfl⟩ := ht2 d' hd'
    exact one_tup ra rb (hal _ hd _ hd') (room hd) hq
  · rw [keyKind'_eq, List.mapM_toArray, map_eq_pure_bind]
    refine wpAny_bind (wpAny_bind (firsts_any e ht2 fun fs hf => wpAny_pure ?_))
    cases fs with
    | nil => cases hf
    | cons f fs =>
      rw [List.map_cons, List.map_cons] at hf
      have f0 : f.isSome = false := (List.cons.inj hf).1
      have fn : f = none := by cases f <;> first | rfl | cases f0
      subst fn
      rw [if_neg (by simp), if_neg (by simp)]
      rw [oneTypeOnly'_eq, List.mapM_toArray, map_eq_pure_bind]
      refine wpAny_bind (wpAny_bind (wpAny_bind (kas_mapM (r := Value.type "tuple") _ (fun v hv Q' hq => ?_) (wpAny_pure ?_))))
      · obtain ⟨d, hd, as, q⟩ := e.left v hv
        obtain ⟨xs, rfl⟩ := ht2 d hd
        exact (looks_reads q).here hq
      · have hall : ((List.map (fun _ => Value.type "tuple") vs).toArray.all fun x => x == Value.type "tuple") = true := by
          simp only [List.all_toArray, List.all_map, List.all_eq_true]
          intro _ _
          exact beq_self_eq_true _
        have h0 : (List.map (fun _ => Value.type "tuple") vs).toArray[0]? = some (Value.type "tuple") := by
          cases vs with
          | nil => exact absurd h2 (by simp)
          | cons v vs => simp
        rw [h0]
        simp only [hall, if_true]
        exact wpAny_pure (wpAny_pure hq)
theorem sorted_tup0 {β : Type} {R : Value → β → Prop} {enc : β → PyData} {vs : List Value} {bs : List β} {E : Value → Shared → Prop} {l : Addr} {Q : Value → Shared → Prop} {r : List PyData} (hb : bs.map enc = .tuple [] :: r) (ht : ∀ d ∈ r, ∃ xs, d = .tuple xs)
    (hl : s.heap.IsList l vs.toArray) (e : EachIs R vs bs) (er : EachIs (fun v b => ∃ as, Reads s.heap v (enc b) as) vs bs) (hal : AllAlike (bs.map enc)) (hL : bs.length ≤ sizeLine)
    (hu : ∀ b, b ∈ bs → A.units + 2 + (enc b).depth < cLine) (h : ∀ out, out.length = bs.length → EachIs R out (bs.mergeSort (dataLe false enc)) → Q (.ref (s.heap.objs.size + 1)) { s with heap := sortedAll s.heap vs (List.toArray out) }) :
    wpAny (model prog w) A (call (.builtin "sorted") [.ref l]) Q E s := by
  have er' : EachIs (fun v b => ∃ as, Reads (sortingHeap (copyHeap s.heap vs) (s.heap.objs.size + 1) vs) v (enc b) as) vs bs := er.mono fun _ _ ⟨as, q⟩ => ⟨as, PyProof.Rows.Reads.keeps (fun _ _ => sorting_copy_old) q⟩
  have S : SortsAt prog w A.in1.in1 { s with heap := sortingHeap (copyHeap s.heap vs) (s.heap.objs.size + 1) vs } (dataKind (sortingHeap (copyHeap s.heap vs) (s.heap.objs.size + 1) vs) (bs.map enc)) vs := by
    have hal2 := hal
    have q := each_map (R := fun v d => ∃ as, Reads (sortingHeap (copyHeap s.heap vs) (s.heap.objs.size + 1) vs) v d as) enc er'
    have hu2 : ∀ d, d ∈ bs.map enc → A.in1.in1.units + d.depth < cLine := bound_map hu
    rw [hb] at q hal2 hu2 ⊢
    exact SortsAt.tup0 (s := { s with heap := sortingHeap (copyHeap s.heap vs) (s.heap.objs.size + 1) vs }) q hal2 ht hu2
  exact sorted_vals hl S (by rw [e.length]; exact hL)
    (h _ (by rw [sortVals_length false rfl]; exact e.length) (sortVals_data false e er' hal))
end
end Ip

set_option Elab.async false
set_option linter.all false
set_option maxRecDepth 100000
set_option maxHeartbeats 4000000
namespace Ip
open PySem PySem.Spec PyProof.Rows L2
theorem each_two {X : Cx} {pins : List (Addr × Obj)} {σ : L2.St} {H : Hp} {s : Shared} (I : Inv X pins σ H s) : ∀ {ds : List D} {xs : List V} {its : List Value}, DpAll X.K H xs ds → Vals xs its →
    PySem.W.EachIs (fun v (b : V × D) => RelV b.1 v) its (xs.zip ds) ∧ PySem.W.EachIs (fun v (b : V × D) => ∃ as, Reads s.heap v b.2 as) its (xs.zip ds)
  | [], _, _, .nil, .nil => ⟨.nil, .nil⟩
  | d :: ds, _, _, .cons h t, .cons r rr => by
    obtain ⟨i1, i2⟩ := each_two I t rr
    exact ⟨.cons r i1, .cons (Dp.reads I d _ _ h r) i2⟩
theorem each_vals : ∀ {out : List Value} {l : List (V × D)}, PySem.W.EachIs (fun v (b : V × D) => RelV b.1 v) out l → Vals (l.map Prod.fst) out
  | _, _, .nil => .nil
  | _, _, .cons r t => .cons r (each_vals t)
theorem dpa_len {K : PySem.W.Frag} {H : Hp} : ∀ {ds : List D} {xs : List V}, DpAll K H xs ds → xs.length = ds.length
  | _, _, .nil => rfl
  | _, _, .cons _ t => congrArg Nat.succ (dpa_len t)
theorem sortOk_of {ds : List D} (h : sortOk ds = true) : PySem.W.AllAlike ds ∧ (PySem.W.Sortable ds ∨ ∃ r, ds = .tuple [] :: r ∧ ∀ d ∈ r, ∃ xs, d = .tuple xs) ∧ ds.length ≤ most ∧ ∀ d ∈ ds, d.depth ≤ 50 := by
  unfold sortOk at h
  simp only [Bool.and_eq_true, Bool.or_eq_true, List.all_eq_true, decide_eq_true_eq] at h
  obtain ⟨⟨⟨⟨h1, h2⟩, h3⟩, h4⟩, _⟩ := h
  refine ⟨h1, ?_, h3, h4⟩
  rcases h2 with (h2 | h2) | h2
  · left
    left
    intro d hd
    have q := h2 d hd
    cases d with
    | tuple xs =>
      cases xs with
      | nil => cases q
      | cons x r => exact ⟨x, r, rfl⟩
    | _ => cases q
  · left
    right
    intro d hd
    have q := h2 d hd
    cases d with
    | none => cases q
    | tuple xs => cases q
    | _ => exact ⟨(fun e => nomatch e), (fun xs e => nomatch e)⟩
  · right
    match ds, h2 with
    | .tuple [] :: r, h2 =>
      unfold tup0 at h2
      refine ⟨r, rfl, fun d hd => ?_⟩
      have q := List.all_eq_true.mp h2 d hd
      cases d <;> first | exact ⟨_, rfl⟩ | cases q
def rSrt (K : PySem.W.Frag) : List V → Hp → VK → Prop := fun vs H Q => ∃ (a : Addr) (xs : List V) (ds : List D), vs = [.ref a] ∧ SqL K H a xs ∧ DpAll K H xs ds ∧ sortOk ds = true ∧
  ∀ (l : List (V × D)) (q : Addr), l.Perm (xs.zip ds) → l.map Prod.snd = srtA ds → H q = none → Q (.ref q) (upd H q (.lst (l.map Prod.fst)))
theorem cr_srt {X : Cx} (hu : X.A.units + 100 < cLine) : CallR X (.builtin "sorted") (rSrt X.K) := by
  intro pins s σ H vs us Q I r h
  obtain ⟨a, xs, ds, rfl, hs, hd, hok, q⟩ := h
  obtain ⟨its, rv, hl, hz⟩ := I.list hs
  rw [Vals.ref1 r]
  obtain ⟨e1, e2⟩ := each_two I hd rv
  obtain ⟨o1, o2, o3, o4⟩ := sortOk_of hok
  have hm : (xs.zip ds).map Prod.snd = ds := List.map_snd_zip (by rw [dpa_len hd]; exact Nat.le_refl _)
  have hlen : (xs.zip ds).length = ds.length := by rw [← hm, List.length_map, hm]
  have dep : ∀ b ∈ xs.zip ds, X.A.units + 2 + (Prod.snd b : D).depth < cLine := fun b hb => by
    have := o4 b.2 (by rw [← hm]; exact List.mem_map.mpr ⟨b, hb, rfl⟩)
    omega
  have fin : ∀ out : List Value, out.length = (xs.zip ds).length → PySem.W.EachIs (fun v (b : V × D) => RelV b.1 v) out ((xs.zip ds).mergeSort (PySem.W.dataLe false Prod.snd)) → ∃ v H', Inv X pins σ H' { s with heap := PyProof.Rows.sortedAll s.heap its (List.toArray out) } ∧ RelV v (.ref (s.heap.objs.size + 1)) ∧ Q v H' := fun out hout eo => by
    have hp : ((xs.zip ds).mergeSort (PySem.W.dataLe false Prod.snd)).Perm (xs.zip ds) := List.mergeSort_perm _ _
    have hsnd : ((xs.zip ds).mergeSort (PySem.W.dataLe false Prod.snd)).map Prod.snd = srtA ds := by
      unfold srtA
      have e3 := List.map_mergeSort (f := Prod.snd) (r := PySem.W.dataLe false (Prod.snd : V × D → D)) (s := PySem.W.dataLe false id) (l := xs.zip ds) (fun _ _ _ _ => rfl)
      rw [e3, hm]
    obtain ⟨ep, he'⟩ := PyProof.Rows.sortedAll_at s.heap its out.toArray
    have hl2 : (((xs.zip ds).mergeSort (PySem.W.dataLe false Prod.snd)).map Prod.fst).length ≤ sizeLine := by rw [List.length_map, hp.length_eq, hlen]; exact most_line o3
    exact ⟨.ref _, upd H (s.heap.objs.size + 1) (.lst (((xs.zip ds).mergeSort (PySem.W.dataLe false Prod.snd)).map Prod.fst)), I.laid (t' := s.toks) (fun _ _ => PyProof.Rows.sortedAll_old) (Nat.le_succ _) ⟨hl2, out, ep, each_vals eo, he'⟩, rfl, q _ _ hp hsnd (I.hok.fresh (Nat.le_succ _))⟩
  rcases o2 with o2 | ⟨r0, hr0, ht0⟩
  · exact PySem.W.sorted_data (enc := Prod.snd) hl.isList e1 e2 (by rw [hm]; exact o1) (by rw [hm]; exact o2) (by rw [hlen]; exact most_line o3) dep fin
  · exact sorted_tup0 (enc := Prod.snd) (by rw [hm]; exact hr0) ht0 hl.isList e1 e2 (by rw [hm]; exact o1) (by rw [hlen]; exact most_line o3) dep fin
theorem rpa_zip {K : PySem.W.Frag} {B : Hp} : ∀ {xs : List V} {ds : List D}, RpA K B xs ds → ∀ b ∈ xs.zip ds, Rp K B b.1 b.2
  | _, _, .nil, b, h => by simp at h
  | _, _, .cons p r, b, h => by
    rcases List.mem_cons.mp h with e | h
    · rw [e]; exact p
    · exact rpa_zip r b h
theorem rpa_unzip {K : PySem.W.Frag} {B : Hp} : ∀ {l : List (V × D)}, (∀ b ∈ l, Rp K B b.1 b.2) → RpA K B (l.map Prod.fst) (l.map Prod.snd)
  | [], _ => .nil
  | b :: l, h => .cons (h b List.mem_cons_self) (rpa_unzip fun c hc => h c (List.mem_cons_of_mem _ hc))
theorem ev_srt {cl : Cl} {ia : IE} {env : List Sl} {st : Pl} {d : D} {st' : Pl} (he : ev cl (.srt ia) env st = some (d, st')) : ∃ xs, ev cl ia env st = some (.list xs, st') ∧ sortOk xs = true ∧ d = .list (srtA xs) := by
  unfold ev at he
  split at he
  · rename_i xs st1 e1
    obtain ⟨h1, h2⟩ := ite_some he
    cases h2
    exact ⟨xs, e1, h1, rfl⟩
  · cases he
section
variable {Γ : Gam} {e a b c : Expr} {ia ib ic i : IE} {pos p0 p1 : Pos}
theorem srt_sf (ha : SE Γ a ia) (hb : Γ.bs.contains "sorted" = true := by rfl) (hg : GlS Γ.sc "sorted" := by rfl) (hs : ∀ env, starEach [a] env = (false, eval a env) :: starEach [] env := by intro _; rfl) : SF Γ (.Call (.Name "sorted" p0) [a] [] pos) (.srt ia) := fun X p o =>
  PE_weak (pe_callB (cr_srt o.units) (o.gl hg) (o.bl _ (List.contains_iff_mem.mp hb)) (by decide +kernel) ((sa_cons ha sa_nil hs) X p o) (by decide) (by decide) (hs _) rfl) fun σ H Q q => by
    obtain ⟨st, B, M, F, env, ds, st', r, he, k⟩ := q
    obtain ⟨xs, e1, h1, e2⟩ := ev_srt he
    cases e2
    refine ⟨st, B, M, F, env, [.list xs], _, r, by unfold ea; rw [e1]; rfl, fun vs B1 H1 x1 r1 pv => ?_⟩
    match vs, pv with
    | [_], .cons (@Rp.lst _ _ l zs _ hx rx) .nil =>
      refine ⟨l, zs, xs, rfl, by rw [o.K]; exact Or.inl (Or.inl (r1.bs.b _ _ hx)), by rw [o.K]; exact RpA.dp r1.bs.b (sortOk_obj h1) rx, h1, fun m q hp hm hq => ?_⟩
      obtain ⟨f1, f2, f3, f4⟩ := r1.freshM hq
      refine k q _ B1 _ x1 f1 f2 f3 f4 upd_same ?_ (r1.more hq)
      rw [← hm]
      exact rpa_unzip fun b hb => rpa_zip rx b (hp.mem_iff.mp hb)
theorem srt_se (ha : SE Γ a ia) (hb : Γ.bs.contains "sorted" = true := by rfl) (hg : GlS Γ.sc "sorted" := by rfl) (hs : ∀ env, starEach [a] env = (false, eval a env) :: starEach [] env := by intro _; rfl) : SE Γ (.Call (.Name "sorted" p0) [a] [] pos) (.srt ia) := (srt_sf ha hb hg hs).se fun _ _ _ _ _ he => by
  obtain ⟨xs, _, _, e⟩ := ev_srt he
  exact ⟨_, e⟩
end
end Ip

set_option Elab.async false
set_option linter.all false
set_option maxRecDepth 100000
set_option maxHeartbeats 4000000

set_option Elab.async false
set_option linter.all false
set_option maxRecDepth 100000
set_option maxHeartbeats 4000000
namespace Ip
open PySem L2
section
variable {K : PySem.W.Frag} {p : Pa} {st st' : Pl} {B B' M F : Hp} {env env' : List Sl} {σ σ' : L2.St} {H H' : Hp} {a : Addr} {o : HO}
/-- the address of an own list -/
theorem Rel.own (r : Rel K p st B M F env σ H) {i : Nat} {ds : List D} (he : env[i]? = some (.ow ds)) : ∃ a xs, σ[i]? = some (some (.ref a)) ∧ M a = some (.lst xs) ∧ RpA K B xs ds := by
  obtain ⟨w, h1, h2⟩ := r.en.at_ i _ he
  cases w with
  | none => exact h2.elim
  | some v =>
    cases v with
    | ref a =>
      obtain ⟨xs, h3, h4⟩ := h2
      exact ⟨a, xs, h1, h3, h4⟩
    | _ => exact h2.elim
end
section
variable {Γ : Gam} {e a b c : Expr} {es rest : List Expr} {ia ib ic i : IE} {ies : IEs} {pos p0 p1 p2 : Pos} {x f : Str} {n : Nat}
/-- x[k] = e, x an own list -/
theorem ss_oset (k : Nat) {j0 : Nat} {q1 q2 : Pos} (n : Nat) (h : SE Γ e i) (hN : Γ.N[n]? = some x := by rfl) (hv : Vis Γ.sc x := by first | exact Or.inl rfl | exact Or.inr (Or.inl rfl) | exact Or.inr (Or.inr rfl)) (hd : (x == ("__debug__" : Str)) = false := by decide) (hcd : (x == ("__classdict__" : Str)) = false := by decide)
    (hs : ∀ env, swapsWithSole [.Subscript (.Name x p0) (.Constant (.int (k : Int)) j0 q1) q2] e pos.line env = pure false := by intro _; rfl) (hw : ∀ env, swappedStores [.Subscript (.Name x p0) (.Constant (.int (k : Int)) j0 q1) q2] e env = pure none := by intro _; rfl)
    (h1 : ∀ env, (assignEach [.Subscript (.Name x p0) (.Constant (.int (k : Int)) j0 q1) q2] env).map (·.2) = [assign (.Subscript (.Name x p0) (.Constant (.int (k : Int)) j0 q1) q2) env] := by intro _; rfl) :
    SS Γ (.Assign [.Subscript (.Name x p0) (.Constant (.int (k : Int)) j0 q1) q2] e pos) (.oset n k i) := fun X p o =>
  PS_weak (ps_asg (h X p o.toOkx) (pg_sub (pe_var (i := n) (by rw [o.N]; exact hN) (by rw [o.sc]; exact hv) hd hcd) pe_int set_list) (hs _) (hw _) (h1 _)) fun D σ H q => by
    obtain ⟨st, B, M, F, env, out, r, he, kk⟩ := q
    unfold evS at he
    split at he
    · rename_i d st1 e1
      split at he
      · rename_i ds e2
        obtain ⟨hl, he⟩ := ite_some he
        subst he
        refine ⟨st, B, M, F, env, d, st1, r, e1, fun v B' H' x1 r' pv => ?_⟩
        obtain ⟨a, xs, g1, g2, g3⟩ := r'.own e2
        refine ⟨_, g1, a, xs, (k : Int), k, rfl, rfl, r'.m _ _ g2, ?_, ?_⟩
        · unfold ixN
          rw [if_pos (Int.natCast_nonneg k), if_pos (by rw [g3.length]; exact Int.ofNat_lt.mpr hl)]
          rfl
        · exact kk B' _ σ _ x1 (r'.grow e2 g1 g2 (g3.set k pv))
      · cases he
    · cases he
end
end Ip

set_option Elab.async false
set_option linter.all false
set_option maxRecDepth 100000
set_option maxHeartbeats 4000000

set_option Elab.async false
set_option linter.all false
set_option maxRecDepth 100000
set_option maxHeartbeats 4000000

set_option Elab.async false
set_option linter.all false
set_option maxRecDepth 100000
set_option maxHeartbeats 4000000

set_option Elab.async false
set_option linter.all false
set_option maxRecDepth 100000
set_option maxHeartbeats 4000000

set_option Elab.async false
set_option linter.all false
set_option maxRecDepth 100000
set_option maxHeartbeats 4000000
namespace Ip
open PySem PySem.Spec PyProof.Rows L2
section
variable {K : PySem.W.Frag} {p : Pa} {st : Pl} {B M F : Hp} {env : List Sl} {σ : L2.St} {H : Hp}
/-- a new object stands among the callers' own for a while -/
theorem Rel.inF (r : Rel K p st B M F env σ H) {q : Addr} {o : HO} (h : H q = none) : Rel K p st B M (upd F q o) env σ (upd H q o) where
  bs := {
    b := r.bs.b.right (r.bs.b.free h)
    f := fun c u e => by
      by_cases hc : c = q
      · subst hc
        rw [upd_same] at e ⊢
        exact e
      · rw [upd_ne hc] at e ⊢
        exact r.bs.f c u e
    d := fun c u e => by
      by_cases hc : c = q
      · subst hc
        exact r.bs.b.free h
      · rw [upd_ne hc] at e
        exact r.bs.d c u e
    pf := by
      rw [upd_ne (fun e => r.bs.pn h e.symm)]
      exact r.bs.pf
    pb := r.bs.pb
    pl := by
      obtain ⟨h1, h2⟩ := r.bs.pl
      exact ⟨by rw [upd_ne (fun e => r.bs.pn h e.symm)]; exact h1, h2⟩
    ce := r.bs.ce.up (fun k a hk => ⟨(r.bs.ce.b k a hk).1, by rw [upd_ne (r.bs.ce.ne h hk)]; exact (r.bs.ce.b k a hk).2.1⟩) (fun k a hk => by rw [upd_ne (r.bs.ce.ne h hk)])
      (fun t ht => ⟨(r.bs.ce.tn t ht).1, by rw [upd_ne (r.bs.ce.tne ht (.inl h))]; exact (r.bs.ce.tn t ht).2⟩) fun z => tabs_new z h }
  m := r.m.right (r.m.free h)
  md := fun a u e => by
    obtain ⟨g1, g2, g3⟩ := r.md a u e
    exact ⟨g1, by rw [upd_ne (ne_of_none e (r.m.free h))]; exact g2, g3⟩
  mc := r.mc
  mt := r.mt
  en := r.en
/-- and goes out of sight again, whatever is made of it -/
theorem Rel.outF {q : Addr} {o o' : HO} (r : Rel K p st B M (upd F q o) env σ H) (h : F q = none) (ho : ∀ ps, o ≠ .tbl ps) (hx : ∀ c nm, o ≠ LamX.CodeO c nm) : Rel K p st B M F env σ (upd H q o') := by
  have hq : H q = some o := r.bs.f q o upd_same
  have sub : ∀ c u, F c = some u → c ≠ q := fun c u e => ne_of_none e h
  have bq : B q = none := r.bs.d q o upd_same
  have mq : M q = none := by
    cases e : M q with
    | none => rfl
    | some u =>
      obtain ⟨_, g, _⟩ := r.md q u e
      rw [upd_same] at g
      cases g
  have pq : (p.a) ≠ q := fun e => by
    have z := r.bs.pf
    rw [e, upd_same] at z
    cases z
  have cq : ∀ k a, p.ca k = some a → a ≠ q := fun k a hk e => by
    have z := (r.bs.ce.b k a hk).2.1
    rw [e, upd_same] at z
    cases z
  have tq : ∀ t ∈ p.tb, t.1 ≠ q := fun t ht e => by
    have z := (r.bs.ce.tn t ht).2
    rw [e, upd_same] at z
    cases z
  refine ⟨⟨r.bs.b.right bq, fun c u e => ?_, fun c u e => r.bs.d c u (by rw [upd_ne (sub c u e)]; exact e), ?_, r.bs.pb, ?_, ?_⟩, r.m.right mq, fun a u e => ?_, r.mc, r.mt, r.en⟩
  · rw [upd_ne (sub c u e)]
    exact r.bs.f c u (by rw [upd_ne (sub c u e)]; exact e)
  · have z := r.bs.pf
    rw [upd_ne pq] at z
    exact z
  · obtain ⟨h1, h2⟩ := r.bs.pl
    exact ⟨by rw [upd_ne pq]; exact h1, h2⟩
  · refine r.bs.ce.up (fun k a hk => ⟨(r.bs.ce.b k a hk).1, ?_⟩) (fun k a hk => by rw [upd_ne (cq k a hk)]) (fun t ht => ⟨(r.bs.ce.tn t ht).1, ?_⟩) fun z t ht => ?_
    · have z := (r.bs.ce.b k a hk).2.1
      rw [upd_ne (cq k a hk)] at z
      exact z
    · have z := (r.bs.ce.tn t ht).2
      rw [upd_ne (tq t ht)] at z
      exact z
    · obtain ⟨ps, h1, h2, h3⟩ := z t ht
      refine ⟨ps, by rw [upd_ne (tq t ht)]; exact h1, h2, fun pos cv hc => ?_⟩
      obtain ⟨c, e1, e2⟩ := h3 pos cv hc
      exact ⟨c, e1, by rw [upd_ne (fun e => by rw [e, hq] at e2; exact hx _ _ (Option.some.inj e2))]; exact e2⟩
  · obtain ⟨g1, g2, g3⟩ := r.md a u e
    rw [upd_ne (ne_of_none e mq)] at g2
    exact ⟨g1, g2, g3⟩
/-- something that is no list stands among the callers' own -/
def addF (B M F : Hp) (c : Addr) (o : HO) : Hp := fun b => if b = c ∧ B b = none ∧ M b = none then some o else F b
theorem Rel.insF (r : Rel K p st B M F env σ H) {c : Addr} {o : HO} (h : H c = some o) (hl : ∀ xs, o ≠ .lst xs) (ht : ∀ ps, o ≠ .tbl ps) : Rel K p st B M (addF B M F c o) env σ H := by
  have ne : ∀ {a : Addr} {u : HO}, H a = some u → u ≠ o → a ≠ c := fun {a u} e n z => by
    rw [z, h] at e
    exact n (Option.some.inj e).symm
  have off : ∀ {a : Addr}, a ≠ c → Ip.addF B M F c o a = F a := fun {a} n => if_neg fun z => n z.1
  refine ⟨⟨r.bs.b, fun b u e => ?_, fun b u e => ?_, ?_, r.bs.pb, r.bs.pl, ⟨r.bs.ce.at_, fun k a hk => ?_, r.bs.ce.inj, fun t hm => ?_, r.bs.ce.tt⟩⟩, r.m, fun a u e => ?_, r.mc, r.mt, r.en⟩
  · unfold Ip.addF at e
    split at e
    · rename_i z
      cases e
      rw [z.1]
      exact h
    · exact r.bs.f b u e
  · unfold Ip.addF at e
    split at e
    · rename_i z
      exact z.2.1
    · exact r.bs.d b u e
  · rw [off (ne r.bs.pl.1 fun z => hl _ z.symm)]
    exact r.bs.pf
  · obtain ⟨xs, ds, _, h2, _⟩ := r.bs.ce.at_ k a hk
    rw [off (ne h2 fun z => hl _ z.symm)]
    exact r.bs.ce.b k a hk
  · obtain ⟨ps, h1, _⟩ := r.bs.ce.tt t hm
    rw [off (ne h1 fun z => ht _ z.symm)]
    exact r.bs.ce.tn t hm
  · obtain ⟨g1, g2, g3⟩ := r.md a u e
    refine ⟨g1, ?_, g3⟩
    unfold Ip.addF
    rw [if_neg (fun z => by rw [z.2.2] at e; cases e)]
    exact g2
end
end Ip

set_option Elab.async false
set_option linter.all false
set_option maxRecDepth 100000
set_option maxHeartbeats 4000000

set_option Elab.async false
set_option linter.all false
set_option maxRecDepth 100000
set_option maxHeartbeats 4000000

set_option Elab.async false
set_option linter.all false
set_option maxRecDepth 100000
set_option maxHeartbeats 4000000

set_option Elab.async false
set_option linter.all false
set_option maxRecDepth 100000
set_option maxHeartbeats 4000000

set_option Elab.async false
set_option linter.all false
set_option maxRecDepth 100000
set_option maxHeartbeats 4000000
namespace Ip
open PySem L2 PySem.W He NdefX
section
variable {P : Program} {fa : List Fa} {fn : List DefD} {er : List ErrD} {ex : Frag → Bool} {ts : List Tab} {w : World} {K : Frag}
theorem SaysU.f (c : SaysU P fa fn er ex ts w K) : SaysF P fa fn er ex K := congrArg (fun z : AlF × List (Option (List (Option (Str × Int)))) => z.1) c
end
end Ip

set_option Elab.async false
set_option linter.all false
set_option maxRecDepth 100000
set_option maxHeartbeats 4000000

set_option Elab.async false
set_option linter.all false
set_option maxRecDepth 100000
set_option maxHeartbeats 4000000

set_option Elab.async false
set_option linter.all false
set_option maxRecDepth 100000
set_option maxHeartbeats 4000000

set_option Elab.async false
set_option linter.all false
set_option maxRecDepth 100000
set_option maxHeartbeats 4000000

set_option Elab.async false
set_option linter.all false
set_option maxRecDepth 100000
set_option maxHeartbeats 4000000
namespace ObX
open PySem PySem.Spec PyProof.Rows L2
section
variable {X : Cx} {CX : CXT} {k : Nat} {C f : Addr} {sp : Sp} {E : L2.St → XK} {x m : Str} {p pos apos : Pos} {e o a b : Expr} {es : List Expr} {ta tb : TE} {t : TA} {pins : List (Addr × Obj)} {σ : L2.St} {H : Hp} {s : Shared}
theorem passR {Q : VK} {us : List Value} {vs : List V} {A : Around} {E0 : XK} (F : FnR X.prog X.w X.K X.mg X.base CX k f sp) (hr : Room k A) (e0 : Env0 X.prog X.w X.K X.mg X.base A X.stack s H) (hx : PassesAt CX X σ E0) (I : Inv X pins σ H s) (r : Vals vs us) (h : sp vs H Q E0) :
    wpAny (model X.prog X.w) A (call (.ref f) us) (EP X pins σ Q) X.xe s := wpAny_call (codeAny_mono (F A X.stack s H us vs Q E0 hr e0 r h) fun z s' hq => by
  match z, hq with
  | .error e, hq => exact hx pins H s e s' I hq
  | .ok (.ret u), hq => exact I.after hq
  | .ok .next, hq => exact hq.elim
  | .ok .brk, hq => exact hq.elim
  | .ok .cont, hq => exact hq.elim)
/-- o.m(..): what it raises is wished for at the slots as they stand -/
def tM (C : Addr) (m : Str) (sp : Sp) (E : L2.St → XK) (ta : TE) (t : TA) : TE := fun σ H Q => ta σ H fun x H1 => ∃ a dx fs, x = .ref a ∧ H1 a = some (.ins C dx fs) ∧ fs.lookup m = none ∧ t σ H1 fun vs H2 => sp (x :: vs) H2 Q (E σ)
theorem pe_m {pl : Sem Bool} (he : PE X o ta) (c : Cls X.K C) (hm : Meth X.K C m f) (F : FnR X.prog X.w X.K X.mg X.base CX k f sp) (hr : Room k X.A) (hx : ∀ σ, PassesAt CX X σ (E σ)) (ha : PA X (e :: es) t)
    (h1 : starEach (e :: es) X.env = (false, eval e X.env) :: starEach es X.env) (h2 : (backTo pos (starEach es X.env)).any (·.1) = false)
    (h3 : eval (.Call (.Attribute o m apos) (e :: es) [] pos) X.env = (do
      let ov ← (eval o X.env)
      standAt (apos.atName)
      let (g0, us0) ← holding [ov] (getMethod ov m pl)
      callWith pos g0 us0 (backTo pos (starEach (e :: es) X.env)) (backToKw pos (keywordEach [] X.env)))) : PE X (.Call (.Attribute o m apos) (e :: es) [] pos) (tM C m sp E ta t) := ⟨fun pins s σ H Q I h => by
  refine PySem.W.methodCall_KW (pl := pl) (thn (he.run pins s σ H _ I h) fun u s1 z => ?_) h3
  obtain ⟨_, H1, I1, rx, a, dx, fs, rfl, ea, l, q⟩ := z
  cases (show u = Value.ref a from rx)
  refine getmeth_ok I1 ea c hm l (PySem.W.callWith_K (h₀ := X.base) (first := [.ref a]) I.ok.mod.kin hm.kp (thn (ha.run pos pins s1 σ H1 _ I1 q) fun us s2 z => ?_) h1 h2)
  obtain ⟨vs, H2, I2, r, q2⟩ := z
  exact ⟨I2.kIn, passR F hr I2.env0 (hx σ) I2 (us := .ref a :: us) (vs := .ref a :: vs) (.cons rfl r) q2⟩⟩
theorem run_mk {Q : VK} {us : List Value} {vs : List V} {E0 : XK} (M : Mk X.K C f) (F : FnR X.prog X.w X.K X.mg X.base CX k f sp) (hr : Room (k + 1) X.A) (hx : PassesAt CX X σ E0) (I : Inv X pins σ H s) (r : Vals vs us)
    (h : ∀ x dx, H x = Option.none → H dx = Option.none → dx ≠ x → sp (V.ref x :: vs) (upd (upd H dx (.own x)) x (.ins C dx [])) (fun v H2 => v = .non ∧ Q (.ref x) H2) E0)
    (hE : ∀ x dx, H x = Option.none → H dx = Option.none → dx ≠ x → PassesAt CX X σ E0) : wpAny (model X.prog X.w) X.A (call (.ref C) us) (EP X pins σ Q) X.xe s := by
  have n1 : H (s.heap.objs.size + 1) = Option.none := I.hok.fresh (Nat.le_succ _)
  have n0 : H s.heap.objs.size = Option.none := I.hok.fresh (Nat.le_refl _)
  have J := Inv.made (C := C) I
  have rr : Vals (V.ref (s.heap.objs.size + 1) :: vs) (Value.ref (s.heap.objs.size + 1) :: us) := .cons rfl r
  refine wpAny_call (make_map (f := f) I.kIn M.makes M.init (beq_iff_eq.mp M.fn) (codeAny_mono (F _ X.stack _ _ _ _ _ E0 (hr.make C us []) (J.env0.make C us []) rr (h _ _ n1 n0 (Nat.ne_of_lt (Nat.lt_succ_self _)))) fun z s' hq => ?_))
  match z, hq with
  | .error e, hq => exact hx pins _ _ e s' J hq
  | .ok (.ret u), hq =>
    obtain ⟨v, H', I3, rv, ev, q3⟩ := J.after hq
    subst ev
    exact ⟨rv, ⟨V.ref (s.heap.objs.size + 1), H', I3, rfl, q3⟩⟩
  | .ok .next, hq => exact hq.elim
  | .ok .brk, hq => exact hq.elim
  | .ok .cont, hq => exact hq.elim
def tMk (C : Addr) (sp : Sp) (E : L2.St → XK) (t : TA) : TE := fun σ H Q => t σ H fun vs H1 => ∀ x dx, H1 x = Option.none → H1 dx = Option.none → dx ≠ x → sp (V.ref x :: vs) (upd (upd H1 dx (.own x)) x (.ins C dx [])) (fun v H2 => v = .non ∧ Q (.ref x) H2) (E σ)
theorem pe_mk (M : Mk X.K C f) (F : FnR X.prog X.w X.K X.mg X.base CX k f sp) (hr : Room (k + 1) X.A) (hg : Gl X x) (hm : X.mg x = some (.ref C)) (hx : ∀ σ, PassesAt CX X σ (E σ)) (ha : PA X (e :: es) t) (hd : (x == ("__debug__" : Str)) = false)
    (h1 : starEach (e :: es) X.env = (false, eval e X.env) :: starEach es X.env) (h2 : (backTo pos (starEach es X.env)).any (·.1) = false) : PE X (.Call (.Name x p) (e :: es) [] pos) (tMk C sp E t) := ⟨fun pins s σ H Q I h => by
  refine wpAny_Call_Name_kw (ld_glob I hg hm (PySem.W.callWith_K (h₀ := X.base) I.ok.mod.kin M.kp (thn (ha.run pos pins s σ H _ I h) fun us s1 z => ?_) h1 h2) hd)
  obtain ⟨vs, H1, I1, r, q⟩ := z
  exact ⟨I1.kIn, run_mk M F hr (hx σ) I1 r q fun _ _ _ _ _ => hx σ⟩⟩
end
end ObX

set_option Elab.async false
set_option linter.all false
set_option maxRecDepth 100000
set_option maxHeartbeats 4000000
namespace Ip
open PySem L2
section
variable {K : PySem.W.Frag} {B : Hp}
theorem keys_of : ∀ {fs : List Str} {ps : List (D × D)} {fvs : List (Str × V)}, keysD fs ps = true → RpF K B fvs ps → fvs.map (·.1) = fs
  | [], [], _, _, .nil => rfl
  | f :: fs, _ :: _, _, h, .cons pv r => by
    unfold keysD at h
    obtain ⟨h1, h2⟩ := Bool.and_eq_true_iff.mp h
    rw [List.map_cons, keys_of h2 r, beq_iff_eq.mp h1]
  | [], _ :: _, _, h, .cons _ _ => by cases h
  | _ :: _, [], _, h, .nil => by cases h
theorem lkD_of {f : Str} : ∀ {ps : List (D × D)} {fvs : List (Str × V)} {d : D}, RpF K B fvs ps → lkD f ps = some d → ∃ v, fvs.lookup f = some v ∧ Rp K B v d
  | [], _, _, .nil, h => by cases h
  | _ :: ps, _, d, .cons (f := g) (v := v) pv r, h => by
    unfold lkD at h
    by_cases e : f = g
    · rw [if_pos e] at h
      cases h
      exact ⟨v, by rw [List.lookup_cons, e, beq_self_eq_true], pv⟩
    · rw [if_neg e] at h
      obtain ⟨u, h1, h2⟩ := lkD_of r h
      exact ⟨u, by rw [List.lookup_cons, beq_false_of_ne e]; exact h1, h2⟩
theorem lk_none {m : Str} : ∀ {fvs : List (Str × V)} {fs : List Str}, fvs.map (·.1) = fs → fs.contains m = false → fvs.lookup m = none
  | [], _, _, _ => rfl
  | (g, v) :: r, _, e, h => by
    subst e
    rw [List.map_cons, List.contains_cons] at h
    obtain ⟨h1, h2⟩ := Bool.or_eq_false_iff.mp h
    rw [List.lookup_cons]
    have h1 : (m == g) = false := h1
    rw [h1]
    exact lk_none rfl h2
theorem rp_ob {v : V} {d : D} {c : Str} {fs : List Str} (h : Rp K B v d) (ho : isOb c fs d = true) : ∃ a dx fvs ps, v = .ref a ∧ B a = some (.ins (He.ga K c) dx fvs) ∧ RpF K B fvs ps ∧ d = .dict ((.str c, .none) :: ps) ∧ fvs.map (·.1) = fs := by
  cases h with
  | @obj a dx c' fvs ps oc hb hf =>
    have z : (c' == c && keysD fs ps) = true := ho
    obtain ⟨h1, h2⟩ := Bool.and_eq_true_iff.mp z
    obtain rfl : c' = c := beq_iff_eq.mp h1
    exact ⟨a, dx, fvs, ps, rfl, hb, hf, rfl, keys_of h2 hf⟩
  | _ => cases ho
theorem fld_of {v : V} {x d : D} {c f : Str} (h : Rp K B v x) (hf : f ≠ isaN) (e : fldD c f x = some d) : ∃ a dx fvs u, v = .ref a ∧ B a = some (.ins (He.ga K c) dx fvs) ∧ ObC K (He.ga K c) ∧ fvs.lookup f = some u ∧ Rp K B u d := by
  unfold fldD at e
  rw [if_neg hf] at e
  cases h with
  | @obj a dx c' fvs ps oc hb hr =>
    have z : (if c' = c then lkD f ps else none) = some d := e
    by_cases q : c' = c
    · subst q
      rw [if_pos rfl] at z
      obtain ⟨u, h1, h2⟩ := lkD_of hr z
      exact ⟨a, dx, fvs, u, rfl, hb, oc, h1, h2⟩
    · rw [if_neg q] at z
      cases z
  | _ => cases e
end
theorem ag_cons {cl : Cl} {e : IE} {es : IEs} {env : List Sl} {st st' : Pl} {z : List (Option D)} (h : ag cl (.cons e es) env st = some (z, st')) : ∃ d st1 ds, ev cl e env st = some (d, st1) ∧ ag cl es env st1 = some (ds, st') ∧ z = some d :: ds := by
  unfold ag at h
  split at h
  · rename_i d st1 e1
    split at h
    · rename_i ds st2 e2
      cases h
      exact ⟨d, st1, ds, e1, e2, rfl⟩
    · cases h
  · cases h
theorem ag_nil {cl : Cl} {env : List Sl} {st st' : Pl} {z : List (Option D)} (h : ag cl .nil env st = some (z, st')) : z = [] ∧ st' = st := by
  unfold ag at h
  cases h
  exact ⟨rfl, rfl⟩
theorem ev_call {cl : Cl} {f : Str} {as : IEs} {env : List Sl} {st st' : Pl} {d : D} (h : ev cl (.call f as) env st = some (d, st')) : ∃ ys st1, ag cl as env st = some (ys, st1) ∧ cl f ys st1 = some (d, st') := by
  unfold ev at h
  split at h
  · rename_i ys st1 e1
    exact ⟨ys, st1, e1, h⟩
  · cases h
theorem xv_call {cl : Cl} {f : Str} {as : IEs} {env : List Sl} {st st' : Pl} {er : Er} (h : xv cl (.call f as) env st = some (er, st')) : ∃ ys st1 dd, ag cl as env st = some (ys, st1) ∧ cl (bang f) ys st1 = some (dd, st') ∧ erOf dd = some er := by
  unfold xv at h
  split at h
  · rename_i ys st1 e1
    split at h
    · rename_i dd st2 e2
      obtain ⟨r, e3, e4⟩ := Option.map_eq_some_iff.mp h
      cases e4
      exact ⟨ys, st1, dd, e1, e2, e3⟩
    · cases h
  · cases h
section
variable {Γ : Gam} {e a b c o : Expr} {es : List Expr} {ia ib ic i io : IE} {ies : IEs} {pos p0 p1 apos : Pos} {x m : Str}
/-- what does not raise -/
theorem SX.se (h : SX Γ e i) : SE Γ e i := fun X p o => PE_weak (h X p (fun _ _ _ _ => False) o fun u s' z => by
  obtain ⟨_, _, _, _, _, _, _, _, _, _, _, _, _, _, _, _, w⟩ := z
  exact False.elim w) fun σ H Q q => Txx.ok q
theorem fld_se (c f : Str) (h : SE Γ e i) (hq : (Γ.oc.any fun q => q.1 == c && q.2.contains f) = true := by rfl) (hh : Γ.hot = false := by rfl) (hf : (f == isaN) = false := by rfl)
    (hb : ∀ env, attributeBase e f env (eval e env) = eval e env := by intro _; rfl) : SE Γ (.Attribute e f pos) (.fld c f i) := fun X p o => PE_weak (pe_fld (h X p o) (hb _)) fun σ H Q q => by
  obtain ⟨w, hw, hc⟩ := List.any_eq_true.mp hq
  obtain ⟨c1, c2⟩ := Bool.and_eq_true_iff.mp hc
  obtain rfl : w.1 = c := beq_iff_eq.mp c1
  have na := ((o.ob hh).clf w hw).no f (List.contains_iff_mem.mp c2)
  obtain ⟨st, B, M, F, env, d, st', r, he, k⟩ := q
  unfold ev at he
  split at he
  · rename_i x st1 e1
    obtain ⟨d2, e2, e3⟩ := Option.map_eq_some_iff.mp he
    cases e3
    refine ⟨st, B, M, F, env, x, _, r, e1, fun v B1 H1 x1 r1 pv => ?_⟩
    obtain ⟨a, dx, fvs, u, rfl, ha, oc, h1, h2⟩ := fld_of pv (beq_eq_false_iff_ne.mp hf) e2
    exact ⟨a, _, dx, fvs, u, rfl, r1.bs.b _ _ ha, by rw [o.K]; exact oc.cls, by rw [← o.K]; exact na, h1, k u B1 H1 x1 r1 h2⟩
  · cases he
/-- what a method's call wants of its arguments, and gives -/
theorem sp_call {X : Cx} {p : Pa} {g : Str} {W : WX} {st : Pl} {B M F : Hp} {env : List Sl} {σ : L2.St} {H : Hp} {ys : List (Option D)} {vs : List V} {Q : VK} (o : Okx Γ X p) (r : Rel Γ.K p st B M F env σ H) (pa : ArA Γ.K p B vs ys)
    (q : (∃ d st', Γ.cl g ys st = some (d, st') ∧ ∀ v B' H', Ex B B' → Rel Γ.K p st' B' M F env σ H' → Rp Γ.K B' v d → Q v H') ∨
      (∃ dd er st', Γ.cl (bang g) ys st = some (dd, st') ∧ erOf dd = some er ∧ ∀ cls d B' H', Ex B B' → Rel Γ.K p st' B' M F env σ H' → Raised X.mg Γ.es Γ.K p B' (uni M F) er cls d H' → W cls (some d) σ H')) :
    spG X.mg Γ.es X.K Γ.cl g vs H Q (WE W σ) := by
  rw [o.K]
  refine ⟨p.o, st, B, uni M F, ys, ⟨rfl, rfl, rfl, o.tb⟩, r.call.o, pa.o, ?_⟩
  rcases q with ⟨d, st', he, k⟩ | ⟨dd, er, st', he, e2, k⟩
  · exact .inl ⟨d, st', he, fun v B' H' x w pv => k v B' H' x (r.back x w.u) pv⟩
  · exact .inr ⟨dd, er, st', he, e2, fun cls d B' H' x w z => k cls d B' H' x (r.back x w.u) z⟩
/-- a call, as it is read: what its arguments come to, and what then -/
theorem txx_call {X : Cx} {p : Pa} {g : Str} {W : WX} {mg : Str → Option Value} {σ : L2.St} {H : Hp} {Q : VK} (q : Txx W mg Γ p (.call g ies) σ H Q) : ∃ st B M F env ys st1, Rel Γ.K p st B M F env σ H ∧ ag Γ.cl ies env st = some (ys, st1) ∧
    ((∃ d st', Γ.cl g ys st1 = some (d, st') ∧ ∀ v B' H', Ex B B' → Rel Γ.K p st' B' M F env σ H' → Rp Γ.K B' v d → Q v H') ∨
      (∃ dd er st', Γ.cl (bang g) ys st1 = some (dd, st') ∧ erOf dd = some er ∧ ∀ cls d B' H', Ex B B' → Rel Γ.K p st' B' M F env σ H' → Raised mg Γ.es Γ.K p B' (uni M F) er cls d H' → W cls (some d) σ H')) := by
  obtain ⟨st, B, M, F, env, r, q⟩ := q
  rcases q with ⟨d, st', he, k⟩ | ⟨er, st', he, k⟩
  · obtain ⟨ys, st1, e1, e2⟩ := ev_call he
    exact ⟨st, B, M, F, env, ys, st1, r, e1, .inl ⟨d, st', e2, k⟩⟩
  · obtain ⟨ys, st1, dd, e1, e2, e3⟩ := xv_call he
    exact ⟨st, B, M, F, env, ys, st1, r, e1, .inr ⟨dd, er, st', e2, e3, k⟩⟩
theorem gd_fst {c m : Str} {fs : List Str} {d : D} {r : List (Option D)} (h : gdOb c m fs (some d :: r) = true) : isOb c fs d = true := (Bool.and_eq_true_iff.mp h).1
/-- o.m(e, ..), m a method of the class c, told of as g -/
theorem sx_meth (g c : Str) {pl : Env → Sem Bool} (ho : SE Γ o io) (h : SG Γ (e :: es) ies) (hq : Γ.ms.contains (g, c, m) = true := by rfl) (hh : Γ.hot = false := by rfl)
    (h1 : ∀ env, starEach (e :: es) env = (false, eval e env) :: starEach es env := by intro _; rfl) (h2 : ∀ env, (backTo pos (starEach es env)).any (·.1) = false := by intro _; rfl)
    (h3 : ∀ env, eval (.Call (.Attribute o m apos) (e :: es) [] pos) env = (do
      let ov ← (eval o env)
      standAt (apos.atName)
      let (g0, us0) ← holding [ov] (getMethod ov m (pl env))
      callWith pos g0 us0 (backTo pos (starEach (e :: es) env)) (backToKw pos (keywordEach [] env))) := by intro _; rfl) : SX Γ (.Call (.Attribute o m apos) (e :: es) [] pos) (.call g (.cons io ies)) := fun X p W ok tk => by
  obtain ⟨k, ⟨fs, fa, hoc, hm, hn, F, g1, g2, g3⟩, hr⟩ := (ok.ob hh).met _ (List.contains_iff_mem.mp hq)
  have cf := (ok.ob hh).clf _ hoc
  refine PE_weak (ObX.pe_m (E := WE W) (ho X p ok) cf.ob.cls hm F (hr.mono (by omega)) (fun σ => L2N.passAt tk σ) (h X p ok) (h1 _) (h2 _) (h3 _)) fun σ H Q q => ?_
  obtain ⟨st, B, M, F0, env, ys, st1, r, e1, q⟩ := txx_call (X := X) q
  have gd : gdOb c m fs ys = true := by
    rcases q with ⟨d, st', he, _⟩ | ⟨dd, er, st', he, _⟩
    · exact g1 _ _ _ he
    · exact g2 _ _ _ he
  obtain ⟨d, st2, ds, e2, e3, rfl⟩ := ag_cons e1
  refine ⟨st, B, M, F0, env, d, st2, r, e2, fun v B1 H1 x1 r1 pv => ?_⟩
  obtain ⟨a, dx, fvs, ps, rfl, ha, _, _, hk⟩ := rp_ob pv (gd_fst gd)
  refine ⟨a, dx, fvs, rfl, by rw [ok.K]; exact r1.bs.b _ _ ha, lk_none hk hn, st2, B1, M, F0, env, ds, st1, r1, e3, fun vs B2 H2 x2 r2 pa => ?_⟩
  refine sp_call ok r2 (.cons (pv.mono x2) pa) ?_
  rcases q with ⟨d, st', he, k⟩ | ⟨dd, er, st', he, e4, k⟩
  · exact .inl ⟨d, st', he, fun v B' H' x w => k v B' H' ((x1.trans x2).trans x) w⟩
  · exact .inr ⟨dd, er, st', he, e4, fun cls d B' H' x w => k cls d B' H' ((x1.trans x2).trans x) w⟩
end
end Ip

set_option Elab.async false
set_option linter.all false
set_option maxRecDepth 100000
set_option maxHeartbeats 4000000
namespace Ip
open PySem L2
def TSq (K : PySem.W.Frag) (cl : Cl) (p : Pa) (i : IE) : TA := fun σ H Q => ∃ st B M F env ds st', Rel K p st B M F env σ H ∧ ev cl i env st = some (.tuple ds, st') ∧
  ∀ vs B' H', Ex B B' → Rel K p st' B' M F env σ H' → RpA K B' vs ds → Q vs H'
def SQ (Γ : Gam) (es : List Expr) (i : IE) : Prop := ∀ X p, Okx Γ X p → PA X es (TSq Γ.K Γ.cl p i)
theorem ev_add {cl : Cl} {a b : IE} {env : List Sl} {st st' : Pl} {ds : List D} (h : ev cl (.bin .add a b) env st = some (.tuple ds, st')) : ∃ xs st1 ys, ev cl a env st = some (.tuple xs, st1) ∧ ev cl b env st1 = some (.tuple ys, st') ∧ ds = xs ++ ys := by
  unfold ev at h
  split at h
  · rename_i x st1 e1
    split at h
    · rename_i y st2 e2
      obtain ⟨d, e3, e4⟩ := Option.map_eq_some_iff.mp h
      cases e4
      cases x <;> cases y <;> first
        | (cases e3; done)
        | (have z := ite_some e3; obtain ⟨_, z2⟩ := z; cases z2; exact ⟨_, _, _, e1, e2, rfl⟩)
        | (have z := ite_some e3; obtain ⟨_, z2⟩ := z; cases z2)
    · cases h
  · cases h
section
variable {Γ : Gam} {e : Expr} {es : List Expr} {ie ir i : IE} {pos p0 ps : Pos} {c : Str}
theorem sq_nil : SQ Γ [] (.tup .nil) := fun X p o => PA_weak pa_nil fun σ H Q q => by
  obtain ⟨st, B, M, F, env, ds, st', r, he, k⟩ := q
  unfold ev ea at he
  cases he
  exact k [] B H (Ex.refl B) r .nil
theorem sq_cons (h : SE Γ e ie) (hr : SQ Γ es ir) (hs : ∀ env, starEach (e :: es) env = (false, eval e env) :: starEach es env := by intro _; rfl) : SQ Γ (e :: es) (.bin .add (.tup (.cons ie .nil)) ir) := fun X p o => PA_weak (pa_cons (h X p o) (hr X p o) (hs _)) fun σ H Q q => by
  obtain ⟨st, B, M, F, env, ds, st', r, he, k⟩ := q
  obtain ⟨xs, st1, ys, e1, e2, rfl⟩ := ev_add he
  unfold ev ea ea at e1
  cases e3 : ev Γ.cl ie env st with
  | none =>
    rw [e3] at e1
    cases e1
  | some z =>
    obtain ⟨x, st2⟩ := z
    rw [e3] at e1
    cases e1
    exact ⟨st, B, M, F, env, x, st1, r, e3, fun v B1 H1 x1 r1 pv => ⟨st1, B1, M, F, env, ys, st', r1, e2, fun vs B2 H2 x2 r2 pa => k (v :: vs) B2 H2 (x1.trans x2) r2 (.cons (pv.mono x2) pa)⟩⟩
end
theorem uni_upd {M F : Hp} {q : Addr} {o : HO} (h : M q = none) : uni M (upd F q o) = upd (uni M F) q o := by
  funext b
  by_cases hb : b = q
  · subst hb
    rw [uni_r h, upd_same, upd_same]
  · cases e : M b with
    | some u => rw [uni_l e, upd_ne hb, uni_l e]
    | none => rw [uni_r e, upd_ne hb, upd_ne hb, uni_r e]
theorem gdMk_of {as : List (Option D)} (h : gdMk as = true) : ∃ ds, as = [some (.tuple ds)] ∧ ds.length ≤ most := by
  unfold gdMk at h
  split at h
  · rename_i ds
    exact ⟨ds, rfl, of_decide_eq_true h⟩
  · cases h
section
variable {Γ : Gam} {e : Expr} {es : List Expr} {i ie : IE} {pos p0 ps : Pos} {c : Str}
/-- what making wants of its arguments, and gives -/
theorem sp_make {X : Cx} {p : Pa} {W : WX} {st : Pl} {B M F : Hp} {env : List Sl} {σ : L2.St} {H : Hp} {ds : List D} {vs : List V} {Q : VK} {x dx : Addr} (o : Okx Γ X p) (r : Rel Γ.K p st B M F env σ H) (pa : RpA Γ.K B vs ds) (hl : ds.length ≤ most)
    (hx : H x = none) (hd : H dx = none) (hn : dx ≠ x)
    (q : (∃ d st', Γ.cl c [some (.tuple ds)] st = some (d, st') ∧ ∀ v B' H', Ex B B' → Rel Γ.K p st' B' M F env σ H' → Rp Γ.K B' v d → Q v H') ∨
      (∃ dd er st', Γ.cl (bang c) [some (.tuple ds)] st = some (dd, st') ∧ erOf dd = some er ∧ ∀ cls d B' H', Ex B B' → Rel Γ.K p st' B' M F env σ H' → Raised X.mg Γ.es Γ.K p B' (uni M F) er cls d H' → W cls (some d) σ H')) :
    spMk X.mg Γ.es X.K Γ.cl c (.ref x :: vs) (upd (upd H dx (.own x)) x (.ins (He.ga X.K c) dx [])) (fun v H2 => v = .non ∧ Q (.ref x) H2) (WE W σ) := by
  rw [o.K]
  have hx2 : (upd H dx (.own x)) x = none := by
    rw [upd_ne hn.symm]
    exact hx
  have w := (((r.inF (o := .own x) hd).inF (o := .ins (He.ga Γ.K c) dx []) hx2).call).o
  have m1 : M dx = none := r.m.free hd
  have m2 : M x = none := r.m.free hx
  rw [uni_upd m2, uni_upd m1] at w
  have f1 : uni M F x = none := by
    rw [uni_r m2]
    exact r.bs.f.free hx
  have f2 : uni M F dx = none := by
    rw [uni_r m1]
    exact r.bs.f.free hd
  refine ⟨p.o, st, B, uni M F, x, dx, vs, ds, rfl, ⟨rfl, rfl, rfl, o.tb⟩, w, f1, f2, hn, pa, hl, ?_⟩
  rcases q with ⟨d, st', he, k⟩ | ⟨dd, er, st', he, e2, k⟩
  · exact .inl ⟨d, st', he, fun B' H' y w pv => ⟨rfl, k _ B' H' y (r.back y w.u) pv⟩⟩
  · exact .inr ⟨dd, er, st', he, e2, fun cls d B' H' y w z => k cls d B' H' y (r.back y w.u) z⟩
theorem mk_read {X : Cx} {p : Pa} {W : WX} {σ : L2.St} {H : Hp} {Q : VK} (o : Okx Γ X p) (g1 : ∀ as st z, Γ.cl c as st = some z → gdMk as = true) (g2 : ∀ as st z, Γ.cl (bang c) as st = some z → gdMk as = true) (q : Txx W X.mg Γ p (.call c (.cons i .nil)) σ H Q) :
    ObX.tMk (He.ga X.K c) (spMk X.mg Γ.es X.K Γ.cl c) (WE W) (TSq Γ.K Γ.cl p i) σ H Q := by
  obtain ⟨st, B, M, F0, env, ys, st1, r, e1, q⟩ := txx_call (X := X) q
  have gd : gdMk ys = true := by
    rcases q with ⟨d, st', he, _⟩ | ⟨dd, er, st', he, _⟩
    · exact g1 _ _ _ he
    · exact g2 _ _ _ he
  obtain ⟨d, st2, ds, e2, e3, rfl⟩ := ag_cons e1
  obtain ⟨rfl, rfl⟩ := ag_nil e3
  obtain ⟨us, h1, hl⟩ := gdMk_of gd
  cases h1
  refine ⟨st, B, M, F0, env, us, _, r, e2, fun vs B1 H1 x1 r1 pa x dx hx hd hn => sp_make o r1 pa hl hx hd hn ?_⟩
  rcases q with ⟨d, st', he, k⟩ | ⟨dd, er, st', he, e4, k⟩
  · exact .inl ⟨d, st', he, fun v B' H' x w => k v B' H' (x1.trans x) w⟩
  · exact .inr ⟨dd, er, st', he, e4, fun cls d B' H' x w => k cls d B' H' (x1.trans x) w⟩
/-- C(e, ..), no star -/
theorem sx_mk (h : SQ Γ (e :: es) i) (hq : Γ.mkr.contains c = true := by rfl) (hh : Γ.hot = false := by rfl) (hg : GlS Γ.sc c := by rfl) (hd : (c == ("__debug__" : Str)) = false := by decide)
    (h1 : ∀ env, starEach (e :: es) env = (false, eval e env) :: starEach es env := by intro _; rfl) (h2 : ∀ env, (backTo pos (starEach es env)).any (·.1) = false := by intro _; rfl) : SX Γ (.Call (.Name c p0) (e :: es) [] pos) (.call c (.cons i .nil)) := fun X p W ok tk => by
  obtain ⟨k, ⟨fa, hm, Mk, F, g1, g2⟩, hr⟩ := (ok.ob hh).mkr _ (List.contains_iff_mem.mp hq)
  exact PE_weak (ObX.pe_mk (E := WE W) Mk F hr (ok.gl hg) hm (fun σ => L2N.passAt tk σ) (h X p ok) hd (h1 _) (h2 _)) fun σ H Q q => mk_read ok g1 g2 q
end
end Ip

set_option Elab.async false
set_option linter.all false
set_option maxRecDepth 100000
set_option maxHeartbeats 4000000
namespace Cm
open PySem Ip L2
theorem rng_at {n i : Nat} {d : D} (h : ((List.range n).map fun (k : Nat) => PyData.int (k : Int))[i]? = some d) : i < n ∧ d = .int i := by
  obtain ⟨h1, h2⟩ := List.getElem?_eq_some_iff.mp h
  simp at h1
  simp at h2
  exact ⟨h1, h2.symm⟩
end Cm

set_option Elab.async false
set_option linter.all false
set_option maxRecDepth 100000
set_option maxHeartbeats 4000000
namespace Cm
open PySem Ip L2
def scal : D → Prop
  | .none => True
  | .bool _ => True
  | .int _ => True
  | .str _ => True
  | _ => False
def dep : Nat → D → Prop
  | 0, d => scal d
  | n + 1, d => scal d ∨ ∃ xs, (d = .list xs ∨ d = .tuple xs) ∧ xs.length ≤ most ∧ ∀ x ∈ xs, dep n x
theorem dep_succ (n : Nat) (d : D) : dep (n + 1) d = (scal d ∨ ∃ xs, (d = .list xs ∨ d = .tuple xs) ∧ xs.length ≤ most ∧ ∀ x ∈ xs, dep n x) := rfl
theorem most_lt {n : Nat} (h : n ≤ most) : (n : Int) ≤ 100000 := by
  unfold most at h
  omega
/-- not one of the lists that are handed about -/
def notH (d : D) : Prop := ∀ e, d ≠ .dict e
def IsIntOk (cl : Cl) : Prop := ∀ (d : D) (st : Pl), notH d → cl "_law_is_int" [some d] st = some (.bool (isiD .int d && !isiD .bool d), st)
def SameOk (cl : Cl) (n : Nat) : Prop := ∀ (d : D) (st : Pl), dep n d → cl "_law_same" [some d, some d] st = some (.bool true, st)
theorem is_int_run (cl : Cl) (d : D) (st : Pl) (hn : notH d) : runI 1 cl I_law_is_int [some d] st = some (.bool (isiD .int d && !isiD .bool d), st) := by
  cases d with
  | dict e => exact absurd rfl (hn e)
  | _ => simp [runI, runF, I_law_is_int, slOf, isiD]
theorem same_scal {cl : Cl} (hi : IsIntOk cl) (d : D) (st : Pl) (h : scal d) : runI 2 cl I_law_same [some d, some d] st = some (.bool true, st) := by
  have hi2 : ∀ i, cl "_law_is_int" [some (.int i)] st = some (.bool true, st) := fun i => hi _ _ (fun e h => by cases h)
  cases d with
  | none => simp [runI, runF, I_law_same, slOf, cmpD, Cst.d]
  | bool b => simp [runI, runF, I_law_same, slOf, cmpD, eqD, Cst.d, isiD]
  | int i => simp [runI, runF, I_law_same, slOf, cmpD, eqD, Cst.d, isiD, hi2]
  | str s => simp [runI, runF, I_law_same, slOf, cmpD, eqD, Cst.d, isiD]
  | _ => exact h.elim
theorem same_run {cl : Cl} {n : Nat} (hi : IsIntOk cl) (hs : SameOk cl n) (d : D) (st : Pl) (h : dep (n + 1) d) : runI 2 cl I_law_same [some d, some d] st = some (.bool true, st) := by
  rw [dep_succ] at h
  rcases h with h | ⟨xs, h, hl, hx⟩
  · exact same_scal hi d st h
  · have hrg : rngD 0 (xs.length : Int) = some ((List.range xs.length).map fun (k : Nat) => PyData.int (k : Int)) := rngD_nat (n := (xs.length : Int)) (Int.natCast_nonneg _) (most_lt hl)
    have at_ : ∀ i, i < xs.length → ∃ x, atI xs (i : Int) = some x ∧ dep n x := fun i hi => by
      refine ⟨_, atI_of (xs := xs) (r := (i : Int)) (by omega) (by omega), hx _ (List.getElem_mem _)⟩
    have key : ∀ d, d = .list xs ∨ d = .tuple xs → ∃ env', forG (fb cl (.one 2) (.cons (.iff (.not (.call "_law_same" (.cons (.ix (.var 0) (.var 2)) (.cons (.ix (.var 1) (.var 2)) .nil)))) (.cons (.ret (.cst (.bl false))) .nil) .nil) .nil))
        ((List.range xs.length).map fun (k : Nat) => PyData.int (k : Int)) [.im d, .im d, .no] st = some (.nx env' st) := fun d h => by
      obtain ⟨env', st', e, x, e2, e3⟩ := forG_nx (f := fb cl (.one 2) (.cons (.iff (.not (.call "_law_same" (.cons (.ix (.var 0) (.var 2)) (.cons (.ix (.var 1) (.var 2)) .nil)))) (.cons (.ret (.cst (.bl false))) .nil) .nil) .nil))
        (fun _ env s => ∃ x, env = [.im d, .im d, x] ∧ s = st) ((List.range xs.length).map fun (k : Nat) => PyData.int (k : Int)) [.im d, .im d, .no] st ⟨_, rfl, rfl⟩
        (fun i y env s hy ⟨x, e, e2⟩ => by
          subst e
          subst e2
          obtain ⟨hi2, rfl⟩ := rng_at hy
          obtain ⟨z, hz, hz2⟩ := at_ i hi2
          have hz3 := hs z s hz2
          refine ⟨[.im d, .im d, .im (.int i)], s, ?_, ⟨_, rfl, rfl⟩⟩
          rcases h with rfl | rfl <;> simp [fb_eq, sgD, ixD, hz, hz3])
      subst e3
      exact ⟨env', e⟩
    obtain ⟨env', e⟩ := key d h
    rcases h with rfl | rfl
    · simp [runI, runF, I_law_same, slOf, cmpD, eqD, biD, Cst.d, isiD, hrg, e]
    · simp [runI, runF, I_law_same, slOf, cmpD, eqD, biD, Cst.d, isiD, hrg, e]
end Cm

set_option Elab.async false
set_option linter.all false
set_option maxRecDepth 100000
set_option maxHeartbeats 4000000
namespace Ip
open PySem L2
/-- calls that come to a value raise nothing -/
def Cons (cl : Cl) : Prop := ∀ (f : Str) as st r, cl f as st = some r → cl (bang f) as st = none
end Ip

set_option Elab.async false
set_option linter.all false
set_option maxRecDepth 100000
set_option maxHeartbeats 4000000
namespace Ip
open PySem PySem.Spec PyProof.Rows L2
theorem bang_self (f : Str) : bang f ≠ f := fun e => by
  have z := congrArg (fun s : Str => s.cps.size) e
  simp [bang] at z
/-- a table with one def and what it raises -/
def clG (g : Str) (n : Nat) (cl : Cl) (I : IF) : Cl := fun f as st => if f = g then runI n cl I as st else runX n cl I as st
/-- a length is a small number -/
def lenG (m : Str) (r : Option (D × Pl)) : Option (D × Pl) := if m = "__len__" then (match r with
  | some z => if lenOk z.1 = true then some z else none
  | none => none) else r
theorem lenG_of {m : Str} {r : Option (D × Pl)} {z : D × Pl} (h : lenG m r = some z) : r = some z ∧ (m = "__len__" → lenOk z.1 = true) := by
  unfold lenG at h
  by_cases e : m = "__len__"
  · rw [if_pos e] at h
    cases r with
    | none => cases h
    | some y =>
      have h2 : (if lenOk y.1 = true then some y else none) = some z := h
      by_cases l : lenOk y.1 = true
      · rw [if_pos l] at h2
        cases h2
        exact ⟨rfl, fun _ => l⟩
      · rw [if_neg l] at h2
        cases h2
  · rw [if_neg e] at h
    exact ⟨h, fun z => absurd z e⟩
/-- a method in the table -/
def runM (c m : Str) (fs : List Str) (n : Nat) (cl : Cl) (I : IF) (as : List (Option D)) (st : Pl) : Option (D × Pl) := if gdOb c m fs as = true then lenG m (runI n cl I as st) else none
def runMX (c m : Str) (fs : List Str) (n : Nat) (cl : Cl) (I : IF) (as : List (Option D)) (st : Pl) : Option (D × Pl) := if gdOb c m fs as = true then runX n cl I as st else none
theorem gd_some {p : Prop} [Decidable p] {x : Option (D × Pl)} {z : D × Pl} (h : (if p then x else none) = some z) : p ∧ x = some z := by
  by_cases q : p
  · rw [if_pos q] at h
    exact ⟨q, h⟩
  · rw [if_neg q] at h
    cases h
theorem runM_gd {c m : Str} {fs : List Str} {n : Nat} {cl : Cl} {I : IF} {as : List (Option D)} {st : Pl} {z : D × Pl} (h : runM c m fs n cl I as st = some z) : gdOb c m fs as = true ∧ runI n cl I as st = some z := ⟨(gd_some h).1, (lenG_of (gd_some h).2).1⟩
theorem runMX_gd {c m : Str} {fs : List Str} {n : Nat} {cl : Cl} {I : IF} {as : List (Option D)} {st : Pl} {z : D × Pl} (h : runMX c m fs n cl I as st = some z) : gdOb c m fs as = true ∧ runX n cl I as st = some z := gd_some h
section
variable {P : Program} {w : World} {K : PySem.W.Frag} {mg : Str → Option Value} {base : Heap}
theorem spG_imp {es : List (Str × Str)} {cl cl' : Cl} {g : Str} {vs : List V} {H : Hp} {Q : VK} {E : XK} (h1 : ∀ as st z, cl g as st = some z → cl' g as st = some z) (h2 : ∀ as st z, cl (bang g) as st = some z → cl' (bang g) as st = some z) (q : spG mg es K cl g vs H Q E) : spG mg es K cl' g vs H Q E := by
  obtain ⟨p, st, B, F, as, a, b, c, q⟩ := q
  refine ⟨p, st, B, F, as, a, b, c, ?_⟩
  rcases q with ⟨d, st', e, k⟩ | ⟨dd, er, st', e, e2, k⟩
  · exact .inl ⟨d, st', h1 _ _ _ e, k⟩
  · exact .inr ⟨dd, er, st', h2 _ _ _ e, e2, k⟩
theorem ms_step {k : Nat} {x qual g c m : Str} {fs : List Str} {params : Arguments} {body : List Stmt} {scope : Scope} {fa : Addr} {fd : FuncData} {N ps : List Str} {Γ : Gam} {I : IF} {cl : Cl} {es : List (Str × Str)} {oc : List (Str × List Str)} (F : FunD K x qual params body scope [] [] fa fd) (S : FnScope N ps scope) (hbn : Binds K fd ps [])
    (hh : Γ.hot = false) (hK : Γ.K = K) (hN : Γ.N = N) (hsc : Γ.sc = scope) (he : Γ.es = es) (hb : SSsX Γ body I.body) (hn : I.n = N.length) (hcl : ∀ as s, cl g as s = runM c m fs ps.length Γ.cl I as s) (hcx : ∀ as s, cl (bang g) as s = runMX c m fs ps.length Γ.cl I as s)
    (a : Av P w K mg base k Γ) (hoc : (c, fs) ∈ oc) (hm : Meth K (He.ga K c) m fa) (hnf : fs.contains m = false) (hio : Γ.io = none := by rfl) (hfr : Γ.fr = false := by rfl) : MsAt mg es P w K base cl oc (k + 1) (g, c, m) := by
  subst he
  refine ⟨fs, fa, hoc, hm, hnf, FnR.imp ((fnx_ok F S hh hK hN hsc hb hn (cl := clG g ps.length Γ.cl I) (g := g) (fun as st => if_pos rfl) (fun as st => if_neg (bang_self g)) a hio hfr).raw hbn .nil) (fun vs H Q E q => ?_), fun as st z h => ?_, fun as st z h => ?_, fun hl as st z h => ?_⟩
  · rw [List.append_nil]
    refine spG_imp (fun as st z h => ?_) (fun as st z h => ?_) q
    · have h2 : cl g as st = some z := h
      rw [hcl] at h2
      exact (if_pos rfl).trans (runM_gd h2).2
    · have h2 : cl (bang g) as st = some z := h
      rw [hcx] at h2
      exact (if_neg (bang_self g)).trans (runMX_gd h2).2
  · have h2 : cl g as st = some z := h
    rw [hcl] at h2
    exact (runM_gd h2).1
  · have h2 : cl (bang g) as st = some z := h
    rw [hcx] at h2
    exact (runMX_gd h2).1
  · have h2 : cl g as st = some z := h
    rw [hcl] at h2
    exact (lenG_of (gd_some h2).2).2 hl
end
section
variable {K : PySem.W.Frag} {p : Pa} {st : Pl} {B M F : Hp} {env : List Sl} {σ : L2.St} {H : Hp}
theorem Rel.push (r : Rel K p st B M F env σ H) (hio : p.io = none) : Rel K p st B M F (.sf :: env) (some (.ref p.sf) :: σ) H := ⟨r.bs, r.m, r.md, r.mc, r.mt, {
  len := by rw [List.length_cons, List.length_cons, r.en.len]
  at_ := fun i s hi => by
    match i, hi with
    | 0, hi =>
      cases hi
      exact ⟨_, rfl, rfl⟩
    | i + 1, hi => exact r.en.at_ i s hi
  ap := fun i j x y a hx hy hi hj si sj => by
    match i, j, hi, hj, si, sj with
    | 0, _, hi, _, _, _ =>
      cases hi
      cases hx
    | _ + 1, 0, _, hj, _, _ =>
      cases hj
      cases hy
    | i + 1, j + 1, hi, hj, si, sj => exact congrArg Nat.succ (r.en.ap i j x y a hx hy hi hj si sj)
  io := fun i a ds h => by
    rw [hio] at h
    cases h }⟩
/-- an instance among the callers' own takes another form -/
theorem Rel.reF {q C dx C' dx' : Addr} {fs fs' : List (Str × V)} (r : Rel K p st B M (upd F q (.ins C dx fs)) env σ H) (h : F q = none) : Rel K p st B M (upd F q (.ins C' dx' fs')) env σ (upd H q (.ins C' dx' fs')) := by
  have bq : B q = none := r.bs.d q _ upd_same
  have mq : M q = none := by
    cases e : M q with
    | none => rfl
    | some u =>
      obtain ⟨_, g, _⟩ := r.md q u e
      rw [upd_same] at g
      cases g
  have z := ((r.outF (o' := .ins C' dx' fs') h (fun _ e => by cases e) (fun _ _ e => by cases e)).insF upd_same (fun _ e => by cases e) (fun _ e => by cases e))
  have e : addF B M F q (.ins C' dx' fs') = upd F q (.ins C' dx' fs') := by
    funext b
    unfold addF upd
    by_cases hb : b = q
    · rw [if_pos ⟨hb, by rw [hb]; exact bq, by rw [hb]; exact mq⟩, if_pos hb]
    · rw [if_neg (fun z => hb z.1), if_neg hb]
  rw [e] at z
  exact z
/-- and becomes known, as it stands -/
theorem Rel.giveF {q C dx : Addr} {fs : List (Str × V)} (r : Rel K p st B M (upd F q (.ins C dx fs)) env σ H) (h : F q = none) : Rel K p st (upd B q (.ins C dx fs)) M F env σ H := by
  have hq : H q = some (.ins C dx fs) := r.bs.f q _ upd_same
  have bq : B q = none := r.bs.d q _ upd_same
  have mq : M q = none := by
    cases e : M q with
    | none => rfl
    | some u =>
      obtain ⟨_, g, _⟩ := r.md q u e
      rw [upd_same] at g
      cases g
  have n1 : q ≠ p.a := fun e => by
    have z := r.bs.pf
    rw [← e, upd_same] at z
    cases z
  have n2 : ∀ k, p.ca k ≠ some q := fun k hk => by
    have z := (r.bs.ce.b k q hk).2.1
    rw [upd_same] at z
    cases z
  have n3 : ∀ t ∈ p.tb, t.1 ≠ q := fun t ht e => by
    have z := (r.bs.ce.tn t ht).2
    rw [e, upd_same] at z
    cases z
  have np : NotP p q := ⟨n1, n2, n3⟩
  have z := r.outF (o' := .ins C dx fs) h (fun _ e => by cases e) (fun _ _ e => by cases e)
  have e : upd H q (.ins C dx fs) = H := by
    funext b
    by_cases hb : b = q
    · rw [hb, upd_same, hq]
    · rw [upd_ne hb]
  rw [e] at z
  exact z.know hq bq mq h np
/-- its dict goes out of sight -/
theorem Rel.loseF {q x : Addr} (r : Rel K p st B M (upd F q (.own x)) env σ H) (h : F q = none) : Rel K p st B M F env σ H := by
  have hq : H q = some (.own x) := r.bs.f q _ upd_same
  have z := r.outF (o' := .own x) h (fun _ e => by cases e) (fun _ _ e => by cases e)
  have e : upd H q (.own x) = H := by
    funext b
    by_cases hb : b = q
    · rw [hb, upd_same, hq]
    · rw [upd_ne hb]
  rw [e] at z
  exact z
end
theorem putF_new {f : Str} {y : V} : ∀ {gs : List Str} {ws : List V}, gs.length = ws.length → f ∉ gs → putF f y (gs.zip ws) = (gs ++ [f]).zip (ws ++ [y])
  | [], [], _, _ => rfl
  | g :: gs, v :: ws, hl, hn => by
    have z := putF_new (f := f) (y := y) (gs := gs) (ws := ws) (by simpa using hl) (fun h => hn (List.mem_cons_of_mem _ h))
    have e : putF f y ((g :: gs).zip (v :: ws)) = (g, v) :: putF f y (gs.zip ws) := if_neg (fun e => hn (by rw [e]; exact List.mem_cons_self))
    rw [e, z]
    rfl
  | [], _ :: _, hl, _ => by cases hl
  | _ :: _, [], hl, _ => by cases hl
theorem rpf_zip {K : PySem.W.Frag} {B : Hp} : ∀ {gs : List Str} {ws : List V} {us : List D}, gs.length = ws.length → RpA K B ws us → RpF K B (gs.zip ws) ((gs.map PyData.str).zip us)
  | [], [], _, _, .nil => .nil
  | g :: gs, v :: ws, _, hl, .cons h r => .cons h (rpf_zip (by simpa using hl) r)
  | [], _ :: _, _, hl, _ => by cases hl
  | _ :: _, [], _, hl, _ => by cases hl
def TFn (Γ : Gam) (p : Pa) (c : Str) (fs : List Str) (es : IEs) : TS := fun D σ H => ∃ st B M F env dx gs ws us st2, Rel Γ.K p st B M (upd F p.sf (.ins (He.ga Γ.K c) dx (gs.zip ws))) env σ H ∧ F p.sf = none ∧ env[0]? = some .sf ∧ gs.length = ws.length ∧ (gs ++ fs).Nodup ∧ (gs ++ fs).length < 1000 ∧
  ea Γ.cl es env st = some (us, st2) ∧ ∀ B' σ' H' vs, Ex B B' → Rel Γ.K p st2 B' M (upd F p.sf (.ins (He.ga Γ.K c) dx ((gs ++ fs).zip (ws ++ vs)))) env σ' H' → RpA Γ.K B' vs us → D.nx σ' H'
def SFn (Γ : Gam) (c : Str) (ss : List Stmt) (fs : List Str) (es : IEs) : Prop := ∀ X p, Oks Γ X p → PSs X ss (TFn Γ p c fs es)
def TN (W : WX) (mg : Str → Option Value) (Γ : Gam) (p : Pa) (c : Str) (pre : ISs) (fs : List Str) (es : IEs) : TS := fun D σ H => ∃ st B M F env dx, Rel Γ.K p st B M (upd F p.sf (.ins (He.ga Γ.K c) dx [])) env σ H ∧ F p.sf = none ∧
  ((∃ env1 st1 us st2, evSs Γ.cl pre env st = some (.nx env1 st1) ∧ env1[0]? = some .sf ∧ ea Γ.cl es env1 st1 = some (us, st2) ∧
      ∀ B' M' σ' H' vs, Ex B B' → Rel Γ.K p st2 B' M' (upd F p.sf (.ins (He.ga Γ.K c) dx (fs.zip vs))) env1 σ' H' → RpA Γ.K B' vs us → D.nx σ' H') ∨
   (∃ er env1 st1, xvSs Γ.cl pre env st = some (er, env1, st1) ∧ ErrK2 W mg Γ p B (upd F p.sf (.ins (He.ga Γ.K c) dx [])) er env1 st1))
def SN (Γ : Gam) (c : Str) (ss : List Stmt) (pre : ISs) (fs : List Str) (es : IEs) : Prop := ∀ X p W, Oks Γ X p → L2N.Takes X W → PSs X ss (TN W X.mg Γ p c pre fs es)
section
variable {Γ : Gam} {e : Expr} {i : IE} {es : IEs} {s : Stmt} {ss : List Stmt} {is : IS} {pre : ISs} {c f sn : Str} {fs : List Str} {p0 p1 pos : Pos}
theorem sfn_nil : SFn Γ c [] [] .nil := fun X p o => PSs_weak pss_nil fun D σ H q => by
  obtain ⟨st, B, M, F, env, dx, gs, ws, us, st2, r, hF, h0, hl, hnd, hlt, he, k⟩ := q
  unfold ea at he
  cases he
  rw [List.append_nil] at k
  exact k B σ H [] (Ex.refl B) (by rw [List.append_nil]; exact r) .nil
theorem sfn_cons (h : SE Γ e i) (hr : SFn Γ c ss fs es) (hq : (Γ.oc.any fun q => q.1 == c && q.2.contains f) = true := by rfl) (hh : Γ.hot = false := by rfl) (hN : Γ.N[0]? = some sn := by rfl) (hv : Vis Γ.sc sn := by first | exact Or.inl rfl | exact Or.inr (Or.inl rfl) | exact Or.inr (Or.inr rfl))
    (hd : (sn == ("__debug__" : Str)) = false := by decide) (hcd : (sn == ("__classdict__" : Str)) = false := by decide) (hs : ∀ env, swapsWith e (some (.Attribute (.Name sn p0) f p1)) pos.line env = pure false := by intro _; rfl) :
    SFn Γ c (.Assign [.Attribute (.Name sn p0) f p1] e pos :: ss) (f :: fs) (.cons i es) := fun X p o => by
  obtain ⟨w, hw, hc⟩ := List.any_eq_true.mp hq
  obtain ⟨c1, c2⟩ := Bool.and_eq_true_iff.mp hc
  obtain rfl : w.1 = c := beq_iff_eq.mp c1
  have cf := (o.ob hh).clf w hw
  have na := cf.no f (List.contains_iff_mem.mp c2)
  refine PSs_weak (pss_cons (ps_fld (pe_var (i := 0) (by rw [o.N]; exact hN) (by rw [o.sc]; exact hv) hd hcd) (h X p o.toOkx) (hs _)) (hr X p o)) fun D σ H q => ?_
  obtain ⟨st, B, M, F, env, dx, gs, ws, us, st2, r, hF, h0, hl, hnd, hlt, he, k⟩ := q
  unfold ea at he
  split at he
  · rename_i d st1 e1
    split at he
    · rename_i us' st3 e2
      cases he
      refine ⟨st, B, M, _, env, d, st1, r, e1, fun y B1 H1 x1 r1 py => ?_⟩
      obtain ⟨ov, z1, z2⟩ := r1.en.at_ 0 _ h0
      have z2 : ov = some (.ref p.sf) := z2
      subst z2
      have nf : f ∉ gs := fun hm => (List.nodup_append.mp hnd).2.2 f hm f List.mem_cons_self rfl
      refine ⟨.ref p.sf, z1, p.sf, He.ga Γ.K w.1, dx, gs.zip ws, rfl, r1.bs.f _ _ upd_same, by rw [← o.K]; exact cf.ob.cls, by rw [← o.K]; exact na, ?_, ?_⟩
      · rw [List.length_zip, List.length_append] at *
        omega
      · refine ⟨st1, B1, M, F, env, dx, gs ++ [f], ws ++ [y], us', st2, ?_, hF, h0, by rw [List.length_append, List.length_append, hl]; rfl, by rw [List.append_assoc]; exact hnd, by rw [List.append_assoc]; exact hlt, e2, fun B' σ' H' vs x2 r2 pv => ?_⟩
        · rw [putF_new hl nf]
          exact r1.reF hF
        · refine k B' σ' H' (y :: vs) (x1.trans x2) ?_ (.cons (py.mono x2) pv)
          rw [List.append_assoc, List.append_assoc] at r2
          exact r2
    · cases he
  · cases he
theorem sn_fin (h : SFn Γ c ss fs es) (hnd : fs.Nodup := by decide) (hl : fs.length < 1000 := by decide) : SN Γ c ss .nil fs es := fun X p W o tk => PSs_weak (h X p o) fun D σ H q => by
  obtain ⟨st, B, M, F, env, dx, r, hF, q⟩ := q
  rcases q with ⟨env1, st1, us, st2, he, h0, e2, k⟩ | ⟨er, env1, st1, he, _⟩
  · unfold evSs at he
    cases he
    exact ⟨st, B, M, F, env, dx, [], [], us, st2, r, hF, h0, rfl, hnd, hl, e2, fun B' σ' H' vs x r' pv => k B' M σ' H' vs x r' pv⟩
  · unfold xvSs at he
    cases he
end
end Ip

set_option Elab.async false
set_option linter.all false
set_option maxRecDepth 100000
set_option maxHeartbeats 4000000
namespace Ip
open PySem PySem.Spec PyProof.Rows L2
theorem Rel.hideF {K : PySem.W.Frag} {p : Pa} {st : Pl} {B M F : Hp} {env : List Sl} {σ : L2.St} {H : Hp} {q C dx : Addr} {fs : List (Str × V)} (r : Rel K p st B M (upd F q (.ins C dx fs)) env σ H) (h : F q = none) : Rel K p st B M F env σ H := by
  have hq : H q = some (.ins C dx fs) := r.bs.f q _ upd_same
  have z := r.outF (o' := .ins C dx fs) h (fun _ e => by cases e) (fun _ _ e => by cases e)
  have e : upd H q (.ins C dx fs) = H := by
    funext b
    by_cases hb : b = q
    · rw [hb, upd_same, hq]
    · rw [upd_ne hb]
  rw [e] at z
  exact z
/-- the class in the table: rows, and then the attributes -/
structure KF where
  n : Nat
  pre : ISs
  fs : List Str
  es : IEs
def isSf : Option Sl → Bool
  | some .sf => true
  | _ => false
theorem isSf_of {o : Option Sl} (h : isSf o = true) : o = some .sf := by
  cases o with
  | none => cases h
  | some s => cases s <;> first | rfl | cases h
def lenE : IEs → Nat
  | .nil => 0
  | .cons _ es => lenE es + 1
  | .pool _ es => lenE es + 1
  | .cell _ es => lenE es + 1
  | .newl _ es => lenE es + 1
  | .newc _ es => lenE es + 1
  | .copy _ es => lenE es + 1
theorem ea_len {cl : Cl} : ∀ {es : IEs} {env : List Sl} {st st' : Pl} {us : List D}, ea cl es env st = some (us, st') → ∃ n, us.length = n ∧ n = lenE es
  | .nil, env, st, st', us, h => by
    unfold ea at h
    cases h
    exact ⟨0, rfl, rfl⟩
  | .cons e es, env, st, st', us, h => by
    unfold ea at h
    split at h
    · split at h
      · rename_i xs st2 e2
        cases h
        obtain ⟨n, h1, h2⟩ := ea_len e2
        exact ⟨n + 1, by rw [List.length_cons, h1], by rw [h2]; rfl⟩
      · cases h
    · cases h
  | .pool _ _, _, _, _, _, h => by
    unfold ea at h
    cases h
  | .cell _ _, _, _, _, _, h => by
    unfold ea at h
    cases h
  | .newl _ _, _, _, _, _, h => by
    unfold ea at h
    cases h
  | .newc _ _, _, _, _, _, h => by
    unfold ea at h
    cases h
  | .copy _ _, _, _, _, _, h => by
    unfold ea at h
    cases h
end Ip

set_option Elab.async false
set_option linter.all false
set_option maxRecDepth 100000
set_option maxHeartbeats 4000000

set_option Elab.async false
set_option linter.all false
set_option maxRecDepth 100000
set_option maxHeartbeats 4000000

set_option Elab.async false
set_option linter.all false
set_option maxRecDepth 100000
set_option maxHeartbeats 4000000

set_option Elab.async false
set_option linter.all false
set_option maxRecDepth 100000
set_option maxHeartbeats 4000000
namespace Ip
open PySem PySem.W He NdefX L2
/-- a method as it stands behind the top; a class that is made by a star parameter -/
def HvM (K : Frag) (c m qual : Str) (st : Stmt) (ps : List Str) : Prop := ∃ fa fd, FunD K m qual (defArgs st) (defBody st) (defScope st) [] [] fa fd ∧ Meth K (ga K c) m fa ∧ Binds K fd ps []
section
variable {P : Program} {w : World} {K : Frag} {mg : Str → Option Value} {base : Heap} {k : Nat} {es : List (Str × Str)} {cl : Cl} {oc : List (Str × List Str)} {g c m qual : Str} {fs : List Str} {st : Stmt}
theorem msat_up {j : Nat} {q : Str × Str × Str} (h : MsAt mg es P w K base cl oc j q) (hj : j ≤ k) : MsAt mg es P w K base cl oc k q := by
  obtain ⟨fs, fa, h1, h2, h3, F, h4⟩ := h
  exact ⟨fs, fa, h1, h2, h3, F.mono hj, h4⟩
theorem mkat_up {j : Nat} (h : MkAt mg es P w K base cl j c) (hj : j ≤ k) : MkAt mg es P w K base cl k c := by
  obtain ⟨fa, h1, h2, F, h4⟩ := h
  exact ⟨fa, h1, h2, F.mono hj, h4⟩
theorem ms_zero {ps : List Str} (h : HvM K c m qual st ps) (hoc : (c, fs) ∈ oc) (hn : fs.contains m = false) : MsAt mg es P w K base noCl oc k (g, c, m) := by
  obtain ⟨fa, fd, F, hm, _⟩ := h
  refine ⟨fs, fa, hoc, hm, hn, fun A outer s H us vs Q E _ _ _ q => ?_, fun _ _ _ h => (by cases h), fun _ _ _ h => (by cases h), fun _ _ _ _ h => (by cases h)⟩
  obtain ⟨_, _, _, _, _, _, _, _, q⟩ := q
  rcases q with ⟨_, _, e, _⟩ | ⟨_, _, _, e, _⟩
  · cases e
  · cases e
theorem msat_step {N ps : List Str} {Γ : Gam} {I : IF} (h : HvM K c m qual st ps) (S : FnScope N ps (defScope st)) (hh : Γ.hot = false) (hK : Γ.K = K) (hN : Γ.N = N) (hsc : Γ.sc = defScope st) (he : Γ.es = es) (hb : SSsX Γ (defBody st) I.body) (hn : I.n = N.length)
    (hcl : ∀ as s, cl g as s = runM c m fs ps.length Γ.cl I as s) (hcx : ∀ as s, cl (bang g) as s = runMX c m fs ps.length Γ.cl I as s) (a : Av P w K mg base k Γ) (hoc : (c, fs) ∈ oc) (hnf : fs.contains m = false) (hio : Γ.io = none := by rfl) (hfr : Γ.fr = false := by rfl) : MsAt mg es P w K base cl oc (k + 1) (g, c, m) := by
  obtain ⟨fa, fd, F, hm, hbn⟩ := h
  exact ms_step F S hbn hh hK hN hsc he hb hn hcl hcx a hoc hm hnf hio hfr
end
theorem clfB_ok {K : Frag} {mg : Str → Option Value} {c : Str} {fs : List Str} (hm : mg c = some (.ref (ga K c))) (h : clfB K c fs = true) : ClF K mg c fs := by
  unfold clfB at h
  obtain ⟨h1, h⟩ := ba h
  obtain ⟨h2, h⟩ := ba h
  obtain ⟨h3, h⟩ := ba h
  obtain ⟨h4, h⟩ := ba h
  obtain ⟨h5, h⟩ := ba h
  obtain ⟨h6, h⟩ := ba h
  obtain ⟨h7, h⟩ := ba h
  obtain ⟨h8, h⟩ := ba h
  obtain ⟨h9, h⟩ := ba h
  obtain ⟨h10, h⟩ := ba h
  obtain ⟨h11, h⟩ := ba h
  obtain ⟨h12, h13⟩ := ba h
  exact {
    mg := hm
    ob := ⟨cls_ok h1, eqO_ok h2, eqO_ok h3, of_decide_eq_true h4, of_decide_eq_true h5, fun t ht => of_decide_eq_true (List.all_eq_true.mp h6 t ht)⟩
    no := fun f hf => eqO_ok (List.all_eq_true.mp h7 f hf)
    sf := h8
    nf := h9
    ni := h10
    ki := of_decide_eq_true h11
    kn := fun t ht => of_decide_eq_true (List.all_eq_true.mp h12 t ht)
    ot := fun c' hc hn => by
      have z := List.all_eq_true.mp h13 c' hc
      rw [decide_eq_false hn, Bool.false_or] at z
      obtain ⟨z1, z2⟩ := ba z
      exact ⟨of_decide_eq_true z1, z2⟩ }
end Ip

set_option Elab.async false
set_option linter.all false
set_option maxRecDepth 100000
set_option maxHeartbeats 4000000
namespace Ip
open PySem PySem.Spec PyProof.Rows L2
def startP (n : Nat) (ds : List D) : List Sl := Sl.sf :: ((ds.map some).map slOf ++ List.replicate (n - 1 - ds.length) Sl.no)
def runP (c : Str) (m : Nat) (cl : Cl) (I : KF) : List (Option D) → Pl → Option (D × Pl)
  | [some (.tuple ds)], st => if ds.length = m ∧ ds.length ≤ most then (match evSs cl I.pre (startP I.n ds) st with
    | some (.nx env1 st1) => if isSf env1[0]? = true then (match ea cl I.es env1 st1 with
        | some (us, st2) => some (mkOb c I.fs us, st2)
        | none => none) else none
    | _ => none) else none
  | _, _ => none
def runPX (m : Nat) (cl : Cl) (I : KF) : List (Option D) → Pl → Option (D × Pl)
  | [some (.tuple ds)], st => if ds.length = m ∧ ds.length ≤ most then (match xvSs cl I.pre (startP I.n ds) st with
    | some (er, _, st1) => some (erD er, st1)
    | none => none) else none
  | _, _ => none
theorem runP_gd {c : Str} {m : Nat} {cl : Cl} {I : KF} {as : List (Option D)} {st : Pl} {z : D × Pl} (h : runP c m cl I as st = some z) : gdMk as = true := by
  unfold runP at h
  split at h
  · rename_i ds
    exact decide_eq_true (gd_some h).1.2
  · cases h
theorem runPX_gd {m : Nat} {cl : Cl} {I : KF} {as : List (Option D)} {st : Pl} {z : D × Pl} (h : runPX m cl I as st = some z) : gdMk as = true := by
  unfold runPX at h
  split at h
  · rename_i ds
    exact decide_eq_true (gd_some h).1.2
  · cases h
theorem runP_of {c : Str} {m : Nat} {cl : Cl} {I : KF} {ds : List D} {st st' : Pl} {d : D} (h : runP c m cl I [some (.tuple ds)] st = some (d, st')) : ds.length = m ∧ ∃ env1 st1 us, evSs cl I.pre (startP I.n ds) st = some (.nx env1 st1) ∧ env1[0]? = some .sf ∧ ea cl I.es env1 st1 = some (us, st') ∧ d = mkOb c I.fs us := by
  unfold runP at h
  obtain ⟨z, h⟩ := gd_some h
  refine ⟨z.1, ?_⟩
  split at h
  · rename_i env1 st1 e1
    obtain ⟨e2, h⟩ := gd_some h
    split at h
    · rename_i us st2 e3
      cases h
      exact ⟨env1, st1, us, e1, isSf_of e2, e3, rfl⟩
    · cases h
  · cases h
theorem runPX_of {m : Nat} {cl : Cl} {I : KF} {ds : List D} {st st' : Pl} {d : D} (h : runPX m cl I [some (.tuple ds)] st = some (d, st')) : ds.length = m ∧ ∃ er env1, xvSs cl I.pre (startP I.n ds) st = some (er, env1, st') ∧ d = erD er := by
  unfold runPX at h
  obtain ⟨z, h⟩ := gd_some h
  refine ⟨z.1, ?_⟩
  split at h
  · rename_i er env1 st1 e1
    cases h
    exact ⟨er, env1, e1, rfl⟩
  · cases h
theorem arA_of {K : PySem.W.Frag} {p : Pa} {B : Hp} : ∀ {vs : List V} {ds : List D}, RpA K B vs ds → ArA K p B vs (ds.map some)
  | _, _, .nil => .nil
  | _, _, .cons h r => .cons h (arA_of r)
theorem start_cons (sn : Str) (N : List Str) (v : V) (vs : List V) : L2.start (sn :: N) (v :: vs) = some v :: L2.start N vs := by
  unfold L2.start
  rw [List.map_cons, List.length_cons, List.length_cons, Nat.add_sub_add_right]
  rfl
section
variable {P : Program} {w : World} {K : PySem.W.Frag} {mg : Str → Option Value} {base : Heap}
theorem mk_stepP {k : Nat} {x qual c sn : Str} {params : Arguments} {body : List Stmt} {scope : Scope} {fa : Addr} {fd : FuncData} {N ps : List Str} {Γ : Gam} {I : KF} {cl : Cl} {es : List (Str × Str)} (F : FunD K x qual params body scope [] [] fa fd) (S : FnScope (sn :: N) (sn :: ps) scope) (hbn : L2.Binds K fd (sn :: ps) [])
    (hh : Γ.hot = false) (hK : Γ.K = K) (hN : Γ.N = sn :: N) (hsc : Γ.sc = scope) (he : Γ.es = es) (hb : SN Γ c body I.pre I.fs I.es) (hn : I.n = N.length + 1) (hl : I.fs.length = lenE I.es)
    (hcl : ∀ as s, cl c as s = runP c ps.length Γ.cl I as s) (hcx : ∀ as s, cl (bang c) as s = runPX ps.length Γ.cl I as s) (a : Av P w K mg base k Γ) (hoc : ObC K (He.ga K c)) (hm : mg c = some (.ref (He.ga K c))) (hM : Mk K (He.ga K c) fa) (hio : Γ.io = none := by rfl) (hfr : Γ.fr = false := by rfl) : MkAt mg es P w K base cl (k + 1) c := by
  subst he
  have fo : FnOk P w K mg base (L2N.CX P w) (k + 1) fa fd (sn :: ps) (spMk mg Γ.es K cl c) := by
    refine F.ok S (fun vs H Q E h => ?_) (fun cdv A outer s H vs Q E hr h => ?_)
    · obtain ⟨p, st, B, F0, y, dx, zs, ds, rfl, hs, w1, f1, f2, hne, pz, hz, q⟩ := h
      rw [List.length_cons, List.length_cons, pz.length]
      rcases q with ⟨d, st', e, _⟩ | ⟨dd, er, st', e, _⟩
      · rw [hcl] at e
        rw [(runP_of e).1]
      · rw [hcx] at e
        rw [(runPX_of e).1]
    · obtain ⟨p, st, B, F0, y, dx, zs, ds, rfl, hs, w1, f1, f2, hne, pz, hz, q⟩ := h
      have o := a.oks hh hK hN S.nd hsc (p := ⟨p.a, p.q, p.lk, p.io, p.fr, p.ca, p.tb, y⟩) (qual := qual) (f := fa) (outer := outer) (E := E) (H := H) (cdv := cdv) hs.lk (by show p.io.map _ = _; rw [hs.io, hio]; rfl) (hs.fr.trans hfr.symm) hs.tb hr
      refine ⟨_, hb _ _ (fun cls d _ H' => E cls d H') o (L2N.takes_of rfl rfl rfl rfl), ?_⟩
      have w2 : Bs (⟨p.a, p.q, p.lk, p.io, p.fr, p.ca, p.tb, y⟩ : Pa) st B (upd (upd F0 dx (.own y)) y (.ins (He.ga K c) dx [])) H := ⟨w1.b, w1.f, w1.d, w1.pf, w1.pb, w1.pl, ⟨w1.ce.at_, w1.ce.b, w1.ce.inj, w1.ce.tn, w1.ce.tt⟩⟩
      have r0 := (rel_start (K := K) (N := N) w2 (arA_of pz)).push hs.io
      have un : ∀ {st2 : Pl} {B2 F2 H2 : Hp}, Bs (⟨p.a, p.q, p.lk, p.io, p.fr, p.ca, p.tb, y⟩ : Pa) st2 B2 F2 H2 → Bs p st2 B2 F2 H2 := fun w => ⟨w.b, w.f, w.d, w.pf, w.pb, w.pl, ⟨w.ce.at_, w.ce.b, w.ce.inj, w.ce.tn, w.ce.tt⟩⟩
      have fy : (upd F0 dx (.own y)) y = none := by
        rw [upd_ne hne.symm]
        exact f1
      have hst : startP I.n ds = (.sf :: ((ds.map some).map slOf ++ List.replicate (N.length - (ds.map some).length) .no) : List Sl) := by
        unfold startP
        rw [hn, Nat.add_sub_cancel, List.length_map]
      have hmg : (cxOf (L2N.CX P w) P w K mg base (sn :: N) qual scope fa cdv A outer s H E).mg = mg := rfl
      rw [hmg]
      subst hK
      rw [start_cons]
      refine ⟨st, B, fun _ => none, upd F0 dx (.own y), _, dx, r0, fy, ?_⟩
      rcases q with ⟨d, st', e, kk⟩ | ⟨dd, er, st', e, e2, kk⟩
      · rw [hcl] at e
        obtain ⟨_, env1, st1, us, e3, e4, e5, rfl⟩ := runP_of e
        rw [hst] at e3
        refine .inl ⟨env1, st1, us, st', e3, e4, e5, fun B' M' σ' H' vs x r pv => ?_⟩
        obtain ⟨n, h1, h2⟩ := ea_len e5
        have hlen : I.fs.length = vs.length := by rw [pv.length, h1, h2, hl]
        have b1 : B' y = none := r.bs.d y _ upd_same
        refine kk _ H' (x.trans (Ex.new b1)) (un ((r.giveF fy).loseF f2).bs) ?_
        exact .obj hoc upd_same ((rpf_zip hlen pv).mono (Ex.new b1))
      · rw [hcx] at e
        obtain ⟨_, er1, env1, e3, rfl⟩ := runPX_of e
        rw [erOf_erD] at e2
        cases e2
        rw [hst] at e3
        refine .inr ⟨_, env1, _, e3, fun cls d B' M' σ' H' x r z => ?_⟩
        have b1 : B' y = none := r.bs.d y _ upd_same
        refine kk cls d B' H' x (un ((r.hideF fy).loseF f2).bs) ?_
        obtain ⟨C, fld, u, z1, z2, z3, z4, z5, z6, z7, z8⟩ := z
        refine ⟨C, fld, u, z1, z2, z3, z4, z5, z6, ?_, z8⟩
        cases hm : M' d with
        | some o => rw [uni_l hm] at z7; cases z7
        | none =>
          rw [uni_r hm] at z7
          by_cases h1 : d = y
          · rw [h1, upd_same] at z7
            cases z7
          · rw [upd_ne h1] at z7
            by_cases h2 : d = dx
            · rw [h2, upd_same] at z7
              cases z7
            · rw [upd_ne h2] at z7
              exact z7
  refine ⟨fa, hm, hM, FnR.imp (fo.raw hbn .nil) fun vs H Q E q => by
    rw [List.append_nil]
    exact q, fun as st z h => ?_, fun as st z h => ?_⟩
  · have h2 : cl c as st = some z := h
    rw [hcl] at h2
    exact runP_gd h2
  · have h2 : cl (bang c) as st = some z := h
    rw [hcx] at h2
    exact runPX_gd h2
end
end Ip
namespace Ip
open PySem PySem.W He NdefX L2
/-- a class that is made with plain parameters, as it stands behind the top -/
def HvP (K : Frag) (c qual : Str) (st : Stmt) (ps : List Str) : Prop := ∃ fa fd, FunD K "__init__" qual (defArgs st) (defBody st) (defScope st) [] [] fa fd ∧ Mk K (ga K c) fa ∧ Binds K fd ps []
section
variable {P : Program} {w : World} {K : Frag} {mg : Str → Option Value} {base : Heap} {k : Nat} {es : List (Str × Str)} {cl : Cl} {c qual : Str} {fs : List Str} {st : Stmt}
theorem mkP_zero {ps : List Str} (h : HvP K c qual st ps) (hm : mg c = some (.ref (ga K c))) : MkAt mg es P w K base noCl k c := by
  obtain ⟨fa, fd, F, hM, _⟩ := h
  refine ⟨fa, hm, hM, fun A outer s H us vs Q E _ _ _ q => ?_, fun _ _ _ h => (by cases h), fun _ _ _ h => (by cases h)⟩
  obtain ⟨_, _, _, _, _, _, _, _, _, _, _, _, _, _, _, _, q⟩ := q
  rcases q with ⟨_, _, e, _⟩ | ⟨_, _, _, e, _⟩
  · cases e
  · cases e
theorem mkatP_step {sn : Str} {N ps : List Str} {Γ : Gam} {I : KF} (h : HvP K c qual st (sn :: ps)) (S : FnScope (sn :: N) (sn :: ps) (defScope st)) (hh : Γ.hot = false) (hK : Γ.K = K) (hN : Γ.N = sn :: N) (hsc : Γ.sc = defScope st) (he : Γ.es = es) (hb : SN Γ c (defBody st) I.pre I.fs I.es) (hn : I.n = N.length + 1) (hl : I.fs.length = lenE I.es)
    (hcl : ∀ as s, cl c as s = runP c ps.length Γ.cl I as s) (hcx : ∀ as s, cl (bang c) as s = runPX ps.length Γ.cl I as s) (a : Av P w K mg base k Γ) (F : ClF K mg c fs) (hio : Γ.io = none := by rfl) (hfr : Γ.fr = false := by rfl) : MkAt mg es P w K base cl (k + 1) c := by
  obtain ⟨fa, fd, F0, hM, hbn⟩ := h
  exact mk_stepP F0 S hbn hh hK hN hsc he hb hn hl hcl hcx a F.ob F.mg hM hio hfr
end
end Ip

set_option Elab.async false
set_option linter.all false
set_option maxRecDepth 100000
set_option maxHeartbeats 4000000
namespace K24
open PySem Ip
def I_pick_at : IF := ⟨2, (.cons (.ret (.ifx (.cmp .lt (.var 1) (.bi .len (.cons (.var 0) .nil))) (.ix (.var 0) (.var 1)) (.cst (.int 0))))
  .nil)⟩
abbrev I_law_mixed : IF := Cm.I_law_mixed
abbrev I_law_draw : IF := Cm.I_law_draw
abbrev I_law_is_int : IF := Cm.I_law_is_int
abbrev I_law_same : IF := Cm.I_law_same
def I_law_numbers : IF := ⟨5, (.cons (.set 1 (.ix (.lst (.cons (.call "_law_draw" (.pool 0 (.cons (.cst (.int 4)) .nil))) (.cons (.call "_law_draw" (.pool 0 (.cons (.cst (.int 12)) .nil))) (.cons (.call "_law_draw" (.pool 0 (.cons (.cst (.int 61)) .nil))) .nil)))) (.call "_law_draw" (.pool 0 (.cons (.cst (.int 3)) .nil)))))
  (.cons (.own 2 (.lst .nil))
  (.cons (.forr (.one 3) (.rng1 (.var 1)) (.cons (.set 4 (.call "_law_draw" (.pool 0 (.cons (.ix (.lst (.cons (.cst (.int 2)) (.cons (.cst (.int 9)) (.cons (.cst (.int 1000)) (.cons (.bin .pow (.cst (.int 10)) (.cst (.int 6))) .nil))))) (.call "_law_draw" (.pool 0 (.cons (.cst (.int 4)) .nil)))) .nil))))
  (.cons (.iff (.cmp .eq (.call "_law_draw" (.pool 0 (.cons (.cst (.int 8)) .nil))) (.cst (.int 7))) (.cons (.set 4 (.bin .add (.bin .mul (.bin .add (.var 4) (.cst (.int 1))) (.bin .pow (.cst (.int 10)) (.cst (.int 40)))) (.call "_law_draw" (.pool 0 (.cons (.bin .pow (.cst (.int 10)) (.cst (.int 6))) .nil)))))
  .nil) .nil)
  (.cons (.app 2 (.var 4))
  .nil))))
  (.cons (.frz [2] (.ret (.var 2)))
  .nil))))⟩
def I_law_tasks : IF := ⟨10, (.cons (.set 1 (.tup .nil))
  (.cons (.own 2 (.lst (.cons (.tup .nil) .nil)))
  (.cons (.own 3 (.lst .nil))
  (.cons (.forr (.one 4) (.rng1 (.call "_law_draw" (.pool 0 (.cons (.cst (.int 7)) .nil)))) (.cons (.set 5 (.bin .add (.var 1) (.tup (.cons (.bin .add (.cst (.int 1)) (.call "_law_draw" (.pool 0 (.cons (.cst (.int 12)) .nil)))) .nil))))
  (.cons (.app 3 (.tup (.cons (.var 1) (.cons (.var 5) .nil))))
  (.cons (.app 2 (.var 5))
  (.cons (.set 1 (.var 5))
  .nil)))))
  (.cons (.forr (.one 4) (.rng1 (.call "_law_draw" (.pool 0 (.cons (.cst (.int 8)) .nil)))) (.cons (.set 5 (.bin .add (.oix 2 (.call "_law_draw" (.pool 0 (.cons (.olen 2) .nil)))) (.tup (.cons (.bin .add (.cst (.int 1)) (.call "_law_draw" (.pool 0 (.cons (.cst (.int 12)) .nil)))) .nil))))
  (.cons (.iff (.oin true 2 (.var 5)) (.cons (.app 2 (.var 5))
  (.cons (.iff (.cmp .eq (.call "_law_draw" (.pool 0 (.cons (.cst (.int 3)) .nil))) (.cst (.int 2))) (.cons (.set 6 (.bin .add (.var 5) (.tup (.cons (.bin .add (.cst (.int 1)) (.call "_law_draw" (.pool 0 (.cons (.cst (.int 3)) .nil)))) .nil))))
  (.cons (.app 3 (.tup (.cons (.var 5) (.cons (.var 6) .nil))))
  (.cons (.app 2 (.var 6))
  .nil))) .nil)
  .nil)) .nil)
  .nil)))
  (.cons (.frz [3] (.set 7 (.lc 8 (.seq (.var 3)) .nil (.ix (.var 8) (.cst (.int 0))))))
  (.cons (.frz [2, 3] (.ret (.lst (.cons (.srt (.lc 9 (.seq (.var 2)) (.cons (.cmp .notin (.var 9) (.var 7)) .nil) (.var 9))) (.cons (.var 3) (.cons (.var 1) .nil))))))
  .nil)))))))⟩
def I_law_waits : IF := ⟨3, (.cons (.tnew 1)
  (.cons (.forr (.one 2) (.seq (.var 0)) (.cons (.tput 1 (.ix (.var 2) (.cst (.int 0))) (.ix (.var 2) (.cst (.int 1))))
  .nil))
  (.cons (.lockd [1])
  (.cons (.ret (.var 1))
  .nil))))⟩
def I_law_chosen : IF := ⟨4, (.cons (.set 3 (.cst (.int 0)))
  (.cons (.iff (.cmp .lt (.var 2) (.bi .len (.cons (.var 1) .nil))) (.cons (.set 3 (.ix (.var 1) (.var 2)))
  .nil) .nil)
  (.cons (.ret (.ix (.var 0) (.bin .mod (.bi .int (.cons (.var 3) .nil)) (.bi .len (.cons (.var 0) .nil)))))
  .nil)))⟩
def I_law_picked : IF := ⟨12, (.cons (.unp [4, 5, 6] (.var 2))
  (.cons (.set 7 (.bi .list (.cons (.var 4) .nil)))
  (.cons (.set 8 (.call "_law_waits" (.cons (.var 5) .nil)))
  (.cons (.set 9 (.lst (.cons (.call "_law_chosen" (.cons (.var 4) (.cons (.ix (.var 1) (.cst (.int 0))) (.cons (.var 3) .nil)))) (.cons (.call "_law_chosen" (.cons (.var 4) (.cons (.ix (.var 1) (.cst (.int 1))) (.cons (.var 3) .nil)))) (.cons (.var 6) .nil)))))
  (.cons (.forr (.one 10) (.seq (.lst (.cons (.cst (.int 0)) (.cons (.cst (.int 2)) (.cons (.cst (.int 1)) (.cons (.cst (.int 0)) (.cons (.cst (.int 2)) .nil))))))) (.cons (.iff (.not (.call "_law_same" (.cons (.dsp [("WaitTasks", "WaitTasks.pick"), ("WovenTasks", "WovenTasks.pick")] (.ix (.var 0) (.var 10)) (.cons (.var 3) (.cons (.var 7) (.cons (.var 8) .nil)))) (.cons (.ix (.var 9) (.var 10)) .nil)))) (.cons (.ret (.cst (.bl false)))
  .nil) .nil)
  .nil))
  (.cons (.iff (.or (.cmp .ne (.var 7) (.var 4)) (.cmp .ne (.tclen 8) (.bi .len (.cons (.var 5) .nil)))) (.cons (.ret (.cst (.bl false)))
  .nil) .nil)
  (.cons (.ret (.bi .all (.cons (.lc 11 (.seq (.var 5)) .nil (.cmp .eq (.tcgt1 8 (.ix (.var 11) (.cst (.int 0)))) (.ix (.var 11) (.cst (.int 1))))) .nil)))
  .nil)))))))⟩
def I_WovenTasks_pick : IF := ⟨4, (.cons (.calm (.ret (.ix (.var 2) (.bin .mod (.call "pick_at" (.cons (.fld "WovenTasks" "weaving" (.var 0)) (.cons (.var 1) .nil))) (.bi .len (.cons (.var 2) .nil))))))
  .nil)⟩
def I_WaitTasks_pick : IF := ⟨5, (.cons (.calm (.set 4 (.tup .nil)))
  (.cons (.calm (.whr (.tcin false 3 (.var 4)) (.cons (.set 4 (.tcget 3 (.var 4)))
  .nil)))
  (.cons (.calm (.ret (.var 4)))
  .nil)))⟩
def I_WovenTasks : KF := ⟨2, .nil, ["weaving"], (.cons (.bi .tuple (.cons (.var 1) .nil)) .nil)⟩
def I_law : IF := ⟨10, (.cons (.set 2 (.lst (.cons (.call "_law_numbers" (.pool 1 .nil)) (.cons (.call "_law_numbers" (.pool 1 .nil)) .nil))))
  (.cons (.own 3 (.bi .list (.cons (.ix (.var 2) (.cst (.int 0))) .nil)))
  (.cons (.set 4 (.lst (.cons (.lento [3] (.call "WovenTasks" (.cons (.bin .add (.tup (.cons (.var 3) .nil)) (.tup .nil)) .nil))) (.cons (.call "WovenTasks" (.cons (.bin .add (.tup (.cons (.bi .tuple (.cons (.ix (.var 2) (.cst (.int 1))) .nil)) .nil)) (.tup .nil)) .nil)) (.cons (.con (mkOb "WaitTasks" [] [])) .nil)))))
  (.cons (.app 3 (.cst (.int 7)))
  (.cons (.oset 3 0 (.bin .add (.oix 3 (.cst (.int 0))) (.cst (.int 1))))
  (.cons (.set 5 (.lst (.cons (.bi .len (.cons (.ix (.var 2) (.cst (.int 0))) .nil)) (.cons (.bi .len (.cons (.ix (.var 2) (.cst (.int 1))) .nil)) .nil))))
  (.cons (.forr (.one 6) (.rng1 (.cst (.int 3))) (.cons (.set 7 (.call "_law_tasks" (.pool 1 .nil)))
  (.cons (.set 8 (.lst (.cons (.cst (.int 0)) (.cons (.mx2 (.cst (.int 0)) (.bin .sub (.ix (.var 5) (.cst (.int 0))) (.cst (.int 1)))) (.cons (.ix (.var 5) (.cst (.int 0))) (.cons (.mx2 (.cst (.int 0)) (.bin .sub (.ix (.var 5) (.cst (.int 1))) (.cst (.int 1)))) (.cons (.ix (.var 5) (.cst (.int 1))) (.cons (.call "_law_draw" (.pool 1 (.cons (.cst (.int 200)) .nil))) .nil))))))))
  (.cons (.forr (.one 9) (.seq (.bin .add (.var 8) (.lst (.cons (.call "_law_draw" (.pool 1 (.cons (.bin .add (.ix (.var 5) (.cst (.int 0))) (.cst (.int 1))) .nil))) .nil)))) (.cons (.iff (.not (.call "_law_picked" (.cons (.var 4) (.cons (.var 2) (.cons (.var 7) (.cons (.var 9) .nil)))))) (.cons (.ret (.cst (.bl false)))
  .nil) .nil)
  .nil))
  (.cons (.iff (.not (.call "_law_same" (.cons (.lst (.cons (.fld "WovenTasks" "weaving" (.ix (.var 4) (.cst (.int 0)))) (.cons (.fld "WovenTasks" "weaving" (.ix (.var 4) (.cst (.int 1)))) .nil))) (.cons (.lst (.cons (.bi .tuple (.cons (.ix (.var 2) (.cst (.int 0))) .nil)) (.cons (.bi .tuple (.cons (.ix (.var 2) (.cst (.int 1))) .nil)) .nil))) .nil)))) (.cons (.ret (.cst (.bl false)))
  .nil) .nil)
  .nil)))))
  (.cons (.ret (.cst (.bl true)))
  .nil))))))))⟩
end K24

set_option Elab.async false
set_option linter.all false
set_option maxRecDepth 100000
set_option maxHeartbeats 4000000

set_option Elab.async false
set_option linter.all false
set_option maxRecDepth 100000
set_option maxHeartbeats 4000000

set_option Elab.async false
set_option linter.all false
set_option maxRecDepth 100000
set_option maxHeartbeats 4000000

set_option Elab.async false
set_option linter.all false
set_option maxRecDepth 100000
set_option maxHeartbeats 4000000
namespace Ip
open PySem L2
section
variable {Γ : Gam} {a b : Expr} {i ib : IE} {pos p0 p1 p2 p3 apos : Pos} {x : Str}
/-- x[e], x an own list -/
theorem oix_se (j : Nat) (h : SE Γ a i) (hN : Γ.N[j]? = some x := by rfl) (hv : Vis Γ.sc x := by first | exact Or.inl rfl | exact Or.inr (Or.inl rfl) | exact Or.inr (Or.inr rfl)) (hd : (x == ("__debug__" : Str)) = false := by decide) (hcd : (x == ("__classdict__" : Str)) = false := by decide) (hs : PlainIx a := by intro _ _; rfl) :
    SE Γ (.Subscript (.Name x p1) a p2) (.oix j i) := fun X p o =>
  PE_weak (pe_ix ix_list (pe_var (i := j) (by rw [o.N]; exact hN) (by rw [o.sc]; exact hv) hd hcd) (h X p o) hs) fun σ H Q q => by
    obtain ⟨st, B, M, F, env, d, st', r, he, k⟩ := q
    unfold ev at he
    split at he
    · rename_i y st1 e1
      split at he
      · rename_i ds e2
        obtain ⟨z, e3, e4⟩ := Option.map_eq_some_iff.mp he
        cases e4
        obtain ⟨w, h1, h2⟩ := r.en.at_ j _ e2
        cases w with
        | none => exact h2.elim
        | some v =>
          cases v with
          | ref b =>
            refine ⟨.ref b, h1, st, B, M, F, env, y, _, r, e1, fun u B1 H1 x1 r1 pu => ?_⟩
            obtain ⟨w2, h3, h4⟩ := r1.en.at_ j _ e2
            rw [h1] at h3
            cases h3
            obtain ⟨xs, g1, g2⟩ := h4
            cases y with
            | int n =>
              cases pu
              obtain ⟨v2, g3, g4⟩ := g2.atI (show L2.atI ds n = some d from e3)
              rw [o.K]
              exact ⟨b, xs, n, v2, rfl, rfl, Or.inl (Or.inl (r1.m _ _ g1)), g3, k v2 B1 H1 x1 r1 g4⟩
            | _ => cases e3
          | _ => exact h2.elim
      · cases he
    · cases he
end
end Ip

set_option Elab.async false
set_option linter.all false
set_option maxRecDepth 100000
set_option maxHeartbeats 4000000
namespace Ip
open PySem PySem.Spec PyProof.Rows L2
theorem tabs_dk {T : List (Addr × Str)} {H : Hp} {a : Addr} {kvs : List (L2.Key × V)} {o : HO} (h : LamX.Tabs T H) (ha : H a = some (.dK kvs)) : LamX.Tabs T (upd H a o) := fun q hq => by
  obtain ⟨ps, h1, h2, h3⟩ := h q hq
  refine ⟨ps, by rw [upd_ne (fun e => by rw [e, ha] at h1; cases h1)]; exact h1, h2, fun pos cv hc => ?_⟩
  obtain ⟨c, e1, e2⟩ := h3 pos cv hc
  exact ⟨c, e1, by rw [upd_ne (fun e => by rw [e, ha] at e2; cases e2)]; exact e2⟩
theorem dTO_code (a : Addr) (xs : List TE3) (q : Str) : dTO a xs ≠ LamX.CodeO a q := fun z => by
  unfold dTO LamX.CodeO at z
  have z := HO.ext.inj z
  have g : (({ objs := Array.replicate (a + 1) ({ cls := .none, data := .fields #[.none, .str q 0] } : Obj) } : Heap)).get? a = some ({ cls := .none, data := .fields #[.none, .str q 0] } : Obj) := by simp [Heap.get?]
  have c : DTs a xs ({ objs := Array.replicate (a + 1) ({ cls := .none, data := .fields #[.none, .str q 0] } : Obj) } : Heap) := by
    rw [z]
    exact ⟨_, _, _, g, rfl, rfl⟩
  obtain ⟨_, _, _, o, es, ep, h1, _, h3, _⟩ := c
  rw [g] at h1
  cases h1
  cases h3
theorem dTO_tbl (a : Addr) (xs : List TE3) (ps : Array Value) : dTO a xs ≠ .tbl ps := fun z => by
  unfold dTO at z
  cases z
theorem tabs_dt {T : List (Addr × Str)} {H : Hp} {a : Addr} {xs : List TE3} {o : HO} (h : LamX.Tabs T H) (ha : H a = some (dTO a xs)) : LamX.Tabs T (upd H a o) := fun q hq => by
  obtain ⟨ps, h1, h2, h3⟩ := h q hq
  refine ⟨ps, by rw [upd_ne (fun e => by rw [e, ha] at h1; exact dTO_tbl _ _ _ (Option.some.inj h1))]; exact h1, h2, fun pos cv hc => ?_⟩
  obtain ⟨c, e1, e2⟩ := h3 pos cv hc
  exact ⟨c, e1, by rw [upd_ne (fun e => by subst e; rw [ha] at e2; exact dTO_code _ _ _ (Option.some.inj e2))]; exact e2⟩
theorem upd_self {H : Hp} {a : Addr} {o : HO} (h : H a = some o) : upd H a o = H := by
  funext b
  by_cases e : b = a
  · rw [e, upd_same, h]
  · rw [upd_ne e]
section
variable {K : PySem.W.Frag} {p : Pa} {st st' : Pl} {B B' M F : Hp} {env env' : List Sl} {σ σ' : L2.St} {H H' : Hp} {a : Addr} {o : HO} {kvs kvs' : List (L2.Key × V)} {tab tab' : List (D × D)}
/-- what an own dict's name stands for -/
theorem Rel.ownD (r : Rel K p st B M F env σ H) {i : Nat} (he : env[i]? = some (.od false tab)) : ∃ a kvs, σ[i]? = some (some (.ref a)) ∧ M a = some (.dK kvs) ∧ RpK K B kvs tab := by
  obtain ⟨w, h1, b, u, rfl, g2, g3⟩ := r.en.at_ i _ he
  cases u <;> first | exact g3.elim | skip
  exact ⟨b, _, h1, g2, g3⟩
theorem modify_same {env : List Sl} {i : Nat} {f : Sl → Sl} (h : ∀ s, env[i]? = some s → f s = s) : env.modify i f = env := by
  apply List.ext_getElem?
  intro k
  rw [List.getElem?_modify]
  by_cases e : i = k
  · subst e
    cases he : env[i]? with
    | none => simp
    | some s => simp [h s he]
  · simp [e]
/-- an own dict becomes known for good: it is locked -/
theorem Rel.lockD (r : Rel K p st B M F env σ H) {i : Nat} (he : env[i]? = some (.od false tab)) (hs : σ[i]? = some (some (.ref a))) (hm : M a = some (.dK kvs)) (rx : RpK K B kvs tab) (od : Obj) :
    ∃ M', Ex B (upd B a (.frz od (.dK kvs))) ∧ Rel K p st (upd B a (.frz od (.dK kvs))) M' F (env.modify i frzdS) σ (upd H a (.frz od (.dK kvs))) := by
  obtain ⟨g1, g2, g3⟩ := r.md a _ hm
  have x : Ex B (upd B a (.frz od (.dK kvs))) := Ex.new g1
  have hc : ∀ k c, p.ca k = some c → c ≠ a := fun k c hk e => by
    have := r.mc k c hk
    rw [e, hm] at this
    cases this
  refine ⟨fun b => if b = a then none else M b, x, ⟨?_, r.bs.f.right g2, ?_, r.bs.pf, ?_, ?_, r.bs.ce.up (fun k c hk => ⟨by rw [upd_ne (hc k c hk)]; exact (r.bs.ce.b k c hk).1, (r.bs.ce.b k c hk).2.1⟩) (fun k c hk => by rw [upd_ne (hc k c hk)]) (fun q hq => ⟨by rw [upd_ne (r.mtn hm q hq)]; exact (r.bs.ce.tn q hq).1, (r.bs.ce.tn q hq).2⟩) fun z => tabs_dk z (r.m _ _ hm)⟩, ?_, ?_, fun k c hk => by simp only [if_neg (hc k c hk)]; exact r.mc k c hk, fun q hq => by simp only [if_neg (r.mtn hm q hq)]; exact r.mt q hq, ?_⟩
  · exact r.bs.b.up
  · intro c u e
    rw [upd_ne (ne_of_none e g2)]
    exact r.bs.d c u e
  · rw [upd_ne (fun e => g3 e.symm)]
    exact r.bs.pb
  · obtain ⟨q1, q2⟩ := r.bs.pl
    exact ⟨by rw [upd_ne (fun e => g3 e.symm)]; exact q1, x _ _ q2⟩
  · intro b u h
    by_cases hb : b = a
    · simp [hb] at h
    · simp only [if_neg hb] at h
      rw [upd_ne hb]
      exact r.m b u h
  · intro b u h
    by_cases hb : b = a
    · simp [hb] at h
    · simp only [if_neg hb] at h
      rw [upd_ne hb]
      exact r.md b u h
  · refine ⟨by rw [List.length_modify]; exact r.en.len, fun k s hk => ?_, r.en.ap.less fun k s hs hk => ?_, fun k c es hp hk => r.en.io k c es hp (by
        rw [List.getElem?_modify] at hk
        by_cases e : i = k
        · subst e
          rw [he] at hk
          simp [frzdS, dMk] at hk
        · simpa [e] using hk)⟩
    · rw [List.getElem?_modify] at hk
      by_cases e : i = k
      · subst e
        rw [he] at hk
        simp [frzdS] at hk
        subst hk
        exact ⟨_, hs, .dctK upd_same (rx.mono x)⟩
      · simp [e] at hk
        obtain ⟨w, q1, q2⟩ := r.en.at_ k s hk
        refine ⟨w, q1, ?_⟩
        cases s with
        | ow fs =>
          cases w with
          | none => exact q2
          | some v =>
            cases v with
            | ref b =>
              obtain ⟨zs, q3, q4⟩ := q2
              have hba : b ≠ a := fun z => e (r.en.ap i k _ _ a rfl rfl he hk hs (by rw [q1, z]))
              exact ⟨zs, by simp only [if_neg hba]; exact q3, q4.mono x⟩
            | _ => exact q2
        | no => exact q2
        | im d =>
          cases w with
          | none => exact q2
          | some v => exact Rp.mono x q2
        | pl =>
          cases w with
          | none => exact q2
          | some v => cases v <;> exact q2
        | ce k =>
          cases w with
          | none => exact q2
          | some v => cases v <;> exact q2
        | er c d =>
          obtain ⟨a1, dd, f, u, z1, z2, z3, z4⟩ := q2
          exact ⟨a1, dd, f, u, z1, z2, x _ _ z3, z4.mono x⟩
        | dk t => exact SlR.mono (s := .dk t) x q2
        | sf => exact q2
        | od t tab =>
          obtain ⟨b, u, z1, z2, z3⟩ := q2
          subst z1
          have hba : b ≠ a := fun z => e (r.en.ap i k _ _ a rfl rfl he hk hs (by rw [q1, z]))
          exact ⟨b, u, rfl, by simp only [if_neg hba]; exact z2, z3.mono x⟩
    · rw [List.getElem?_modify] at hk
      by_cases e : i = k
      · subst e
        rw [he] at hk
        simp [frzdS] at hk
        subst hk
        cases hs
      · exact ⟨s, hs, by simpa [e] using hk⟩
theorem Rel.ownT (r : Rel K p st B M F env σ H) {i : Nat} (he : env[i]? = some (.od true tab)) : ∃ a xs, σ[i]? = some (some (.ref a)) ∧ M a = some (dTO a xs) ∧ RpT K B xs tab := by
  obtain ⟨w, h1, b, u, rfl, g2, xs, rfl, g4⟩ := r.en.at_ i _ he
  exact ⟨b, xs, h1, g2, g4⟩
/-- an own dict of tuples becomes known for good -/
theorem Rel.lockT {xs : List TE3} (r : Rel K p st B M F env σ H) {i : Nat} (he : env[i]? = some (.od true tab)) (hs : σ[i]? = some (some (.ref a))) (hm : M a = some (dTO a xs)) (rx : RpT K B xs tab) :
    ∃ M', Ex B (upd B a (dTO a xs)) ∧ Rel K p st (upd B a (dTO a xs)) M' F (env.modify i frzdS) σ H := by
  have self := upd_self (r.m _ _ hm)
  rw [← self]
  obtain ⟨g1, g2, g3⟩ := r.md a _ hm
  have x : Ex B (upd B a (dTO a xs)) := Ex.new g1
  have hc : ∀ k c, p.ca k = some c → c ≠ a := fun k c hk e => by
    have := r.mc k c hk
    rw [e, hm] at this
    cases this
  refine ⟨fun b => if b = a then none else M b, x, ⟨?_, r.bs.f.right g2, ?_, r.bs.pf, ?_, ?_, r.bs.ce.up (fun k c hk => ⟨by rw [upd_ne (hc k c hk)]; exact (r.bs.ce.b k c hk).1, (r.bs.ce.b k c hk).2.1⟩) (fun k c hk => by rw [upd_ne (hc k c hk)]) (fun q hq => ⟨by rw [upd_ne (r.mtn hm q hq)]; exact (r.bs.ce.tn q hq).1, (r.bs.ce.tn q hq).2⟩) fun z => tabs_dt z (r.m _ _ hm)⟩, ?_, ?_, fun k c hk => by simp only [if_neg (hc k c hk)]; exact r.mc k c hk, fun q hq => by simp only [if_neg (r.mtn hm q hq)]; exact r.mt q hq, ?_⟩
  · exact r.bs.b.up
  · intro c u e
    rw [upd_ne (ne_of_none e g2)]
    exact r.bs.d c u e
  · rw [upd_ne (fun e => g3 e.symm)]
    exact r.bs.pb
  · obtain ⟨q1, q2⟩ := r.bs.pl
    exact ⟨by rw [upd_ne (fun e => g3 e.symm)]; exact q1, x _ _ q2⟩
  · intro b u h
    by_cases hb : b = a
    · simp [hb] at h
    · simp only [if_neg hb] at h
      rw [upd_ne hb]
      exact r.m b u h
  · intro b u h
    by_cases hb : b = a
    · simp [hb] at h
    · simp only [if_neg hb] at h
      rw [upd_ne hb]
      exact r.md b u h
  · refine ⟨by rw [List.length_modify]; exact r.en.len, fun k s hk => ?_, r.en.ap.less fun k s hs hk => ?_, fun k c es hp hk => r.en.io k c es hp (by
        rw [List.getElem?_modify] at hk
        by_cases e : i = k
        · subst e
          rw [he] at hk
          simp [frzdS, dMkT] at hk
        · simpa [e] using hk)⟩
    · rw [List.getElem?_modify] at hk
      by_cases e : i = k
      · subst e
        rw [he] at hk
        simp [frzdS] at hk
        subst hk
        exact ⟨_, hs, .dctT upd_same (rx.mono x)⟩
      · simp [e] at hk
        obtain ⟨w, q1, q2⟩ := r.en.at_ k s hk
        refine ⟨w, q1, ?_⟩
        cases s with
        | ow fs =>
          cases w with
          | none => exact q2
          | some v =>
            cases v with
            | ref b =>
              obtain ⟨zs, q3, q4⟩ := q2
              have hba : b ≠ a := fun z => e (r.en.ap i k _ _ a rfl rfl he hk hs (by rw [q1, z]))
              exact ⟨zs, by simp only [if_neg hba]; exact q3, q4.mono x⟩
            | _ => exact q2
        | no => exact q2
        | im d =>
          cases w with
          | none => exact q2
          | some v => exact Rp.mono x q2
        | pl =>
          cases w with
          | none => exact q2
          | some v => cases v <;> exact q2
        | ce k =>
          cases w with
          | none => exact q2
          | some v => cases v <;> exact q2
        | er c d =>
          obtain ⟨a1, dd, f, u, z1, z2, z3, z4⟩ := q2
          exact ⟨a1, dd, f, u, z1, z2, x _ _ z3, z4.mono x⟩
        | dk t => exact SlR.mono (s := .dk t) x q2
        | sf => exact q2
        | od t tab =>
          obtain ⟨b, u, z1, z2, z3⟩ := q2
          subst z1
          have hba : b ≠ a := fun z => e (r.en.ap i k _ _ a rfl rfl he hk hs (by rw [q1, z]))
          exact ⟨b, u, rfl, by simp only [if_neg hba]; exact z2, z3.mono x⟩
    · rw [List.getElem?_modify] at hk
      by_cases e : i = k
      · subst e
        rw [he] at hk
        simp [frzdS] at hk
        subst hk
        cases hs
      · exact ⟨s, hs, by simpa [e] using hk⟩
end
def tGh (t : TS) : TS := fun D σ H => t D σ H ∨ ∃ d u, H d = some u ∧ Mut (some u) ∧ ∀ od, t D σ (upd H d (.frz od u))
theorem pss_gh {X : Cx} {ss : List Stmt} {t : TS} (h : PSs X ss t) : PSs X ss (tGh t) := ⟨fun pins s σ H D I q => by
  rcases q with q | ⟨d, u, hd, mu, q⟩
  · exact h.run pins s σ H D I q
  · obtain ⟨od, I1⟩ := I.lock hd mu
    exact h.run pins s σ _ D I1 (q od)⟩
theorem gh_of {K : PySem.W.Frag} {p : Pa} {st : Pl} {B M F : Hp} {env : List Sl} {σ : L2.St} {H : Hp} {t : TS} {Dd : Ends} (r : Rel K p st B M F env σ H) (i : Nat) (h : ∀ B' M' H', Ex B B' → Rel K p st B' M' F (env.modify i frzdS) σ H' → t Dd σ H') : tGh t Dd σ H := by
  have same : (∀ s, env[i]? = some s → frzdS s = s) → tGh t Dd σ H := fun g => .inl (h B M H (Ex.refl B) (by rw [modify_same g]; exact r))
  cases he : env[i]? with
  | none => exact same fun s e => by rw [he] at e; cases e
  | some s =>
    cases s with
    | od b tab =>
      cases b with
      | true =>
        obtain ⟨a, xs, g1, g2, g3⟩ := r.ownT he
        obtain ⟨M', x, r'⟩ := r.lockT he g1 g2 g3
        exact .inl (h _ M' _ x r')
      | false =>
        obtain ⟨a, kvs, g1, g2, g3⟩ := r.ownD he
        refine .inr ⟨a, _, r.m _ _ g2, True.intro, fun od => ?_⟩
        obtain ⟨M', x, r'⟩ := r.lockD he g1 g2 g3 od
        exact h _ M' _ x r'
    | _ => exact same fun s e => by rw [he] at e; cases e; rfl
section
variable {Γ : Gam} {ss : List Stmt} {iss pre : ISs} {c : Str} {fs : List Str} {es : IEs}
theorem evSs_lock {cl : Cl} {i : Nat} {r : ISs} {env : List Sl} {st : Pl} : evSs cl (.cons (.lockd [i]) r) env st = evSs cl r (env.modify i frzdS) st := by
  rw [evSs, evS]
  rfl
theorem sss_lock (i : Nat) (h : SSs Γ ss iss) : SSs Γ ss (.cons (.lockd [i]) iss) := fun X p o => PSs_weak (pss_gh (h X p o)) fun D σ H q => by
  obtain ⟨st, B, M, F, env, out, r, he, k⟩ := q
  rw [evSs_lock] at he
  exact gh_of r i fun B' M' H' x r' => ⟨st, B', M', F, _, out, r', he, k.mono x⟩
end
end Ip

set_option Elab.async false
set_option linter.all false
set_option maxRecDepth 100000
set_option maxHeartbeats 4000000
namespace ObX
open PySem PySem.Spec PyProof.Rows L2
section
variable {X : Cx} {CX : CXT} {k : Nat} {C p g a dx : Addr} {fs : List (Str × V)} {f x m : Str} {sp : Sp} {E : XK} {e : Expr} {pos np : Pos} {ta : TE} {pins : List (Addr × Obj)} {σ : L2.St} {H : Hp} {s : Shared}
/-- C(), no __init__ but object's -/
theorem run_bare {Q : VK} (hm : PySem.W.makesIn X.K C = true) (hi : PySem.W.findIn X.K (.ref C) "__init__" = some (some (.builtin "object.__init__"))) (I : Inv X pins σ H s)
    (h : ∀ x dx, H x = Option.none → H dx = Option.none → dx ≠ x → Q (.ref x) (upd (upd H dx (.own x)) x (.ins C dx []))) : wpAny (model X.prog X.w) X.A (call (.ref C) []) (EP X pins σ Q) X.xe s := by
  have n1 : H (s.heap.objs.size + 1) = Option.none := I.hok.fresh (Nat.le_succ _)
  have n0 : H s.heap.objs.size = Option.none := I.hok.fresh (Nat.le_refl _)
  have J := Inv.made (C := C) I
  obtain ⟨mA, O, _⟩ := ins_get J.hok upd_same
  obtain ⟨od, J2, _⟩ := O.look
  refine wpAny_call (make_map0 I.kIn hm hi (fun self => PySem.W.Looks.of_pure (PySem.W.oi_bind self)) ?_)
  have t2 : PySem.W.Looks (model X.prog X.w) ((s.heap.push PySem.W.emptyDict).push (PySem.W.instObj C s.heap.objs.size)) (isInstance (.ref (s.heap.objs.size + 1)) (.type "object")) true := J2.type.andThen (PySem.W.looks_mroIn J.kIn (mro_obj hm))
  refine codeAny_call_builtin PySem.W.oi_plain PySem.W.entry_oi (@PySem.W.check_slot (model X.prog X.w) _ _ _ "object.__init__" "object" "__init__" (.ref (s.heap.objs.size + 1)) [] [] _ PySem.W.oi_kind PySem.W.oi_split t2 (PySem.W.oi_args (.ref (s.heap.objs.size + 1))) ?_)
  rw [PySem.W.oi_run]
  exact wpAny_pure (And.intro rfl ⟨V.ref (s.heap.objs.size + 1), _, J, rfl, h _ _ n1 n0 (Nat.ne_of_lt (Nat.lt_succ_self _))⟩)
theorem pe_bare (hm : PySem.W.makesIn X.K C = true) (hi : PySem.W.findIn X.K (.ref C) "__init__" = some (some (.builtin "object.__init__"))) (hk : PySem.W.keepIn X.K (.ref C) = true) (hg : Gl X x) (hmg : X.mg x = some (.ref C)) (hd : (x == ("__debug__" : Str)) = false) :
    PE X (.Call (.Name x np) [] [] pos) (fun _ H Q => ∀ x dx, H x = Option.none → H dx = Option.none → dx ≠ x → Q (.ref x) (upd (upd H dx (.own x)) x (.ins C dx []))) := ⟨fun pins s σ H Q I h =>
  wpAny_Call_Name_kw (ld_glob I hg hmg (PySem.W.callWith_K0 I.kIn hk (run_bare hm hi I h)) hd)⟩
end
end ObX
namespace Ip
open PySem PySem.Spec PyProof.Rows L2
section
variable {Γ : Gam} {e : Expr} {i : IE} {pos p0 p1 p2 apos : Pos}
/-- C(), no __init__ -/
theorem new0_se (c : Str) (hq : Γ.its.contains (.nw c) = true := by rfl) (hh : Γ.hot = false := by rfl) (hg : GlS Γ.sc c := by rfl) (hd : (c == ("__debug__" : Str)) = false := by decide) : SE Γ (.Call (.Name c p0) [] [] pos) (.con (mkOb c [] [])) := fun X p o => by
  obtain ⟨k, ⟨hm, h1, h2, h3, h4⟩, hr⟩ := (o.ob hh).itr _ (List.contains_iff_mem.mp hq)
  refine PE_weak (ObX.pe_bare h1 h2 h3 (o.gl hg) hm hd) fun σ H Q q => ?_
  obtain ⟨st, B, M, F0, env, d, st', r, he, kk⟩ := q
  unfold ev at he
  cases he
  intro x dx hx hdx hne
  have hx2 : (upd H dx (.own x)) x = none := by
    rw [upd_ne hne.symm]
    exact hx
  have r1 := (r.more (o := .own x) hdx).new (o := .ins (He.ga X.K c) dx []) hx2
  have b1 : B x = none := r.bs.b.free hx
  rw [o.K] at r1 ⊢
  rw [o.K] at h4
  exact kk _ _ _ (Ex.new b1) r1 (.obj h4 upd_same .nil)
end
end Ip

set_option Elab.async false
set_option linter.all false
set_option maxRecDepth 100000
set_option maxHeartbeats 4000000
namespace Ip
open PySem L2
section
variable {f : List Sl → Pl → Option (D × Pl)} {g : List Sl → Pl → Option Out}
theorem whG_up : ∀ {n m : Nat} {env : List Sl} {st : Pl} {o : Out}, whG f g n env st = some o → n ≤ m → whG f g m env st = some o
  | 0, _, _, _, _, h, _ => by cases h
  | n + 1, 0, _, _, _, _, hl => by omega
  | n + 1, m + 1, env, st, o, h, hl => by
    unfold whG at h ⊢
    cases e1 : f env st with
    | none =>
      rw [e1] at h
      cases h
    | some z =>
      obtain ⟨d, st1⟩ := z
      rw [e1] at h
      cases d <;> first | (cases h; done) | skip
      rename_i b
      cases b with
      | false => exact h
      | true =>
        simp only at h ⊢
        cases e2 : g env st1 with
        | none =>
          rw [e2] at h
          cases h
        | some o1 =>
          rw [e2] at h
          cases o1 with
          | nx e s => exact whG_up (n := n) (m := m) h (by omega)
          | ct e s => exact whG_up (n := n) (m := m) h (by omega)
          | bk e s => exact h
          | rt v s => exact h
theorem whG_end {n : Nat} {env : List Sl} {st st1 : Pl} (h : f env st = some (.bool false, st1)) : whG f g (n + 1) env st = some (.nx env st1) := by
  unfold whG
  rw [h]
theorem whG_nx {n : Nat} {env env1 : List Sl} {st st1 st2 : Pl} (h : f env st = some (.bool true, st1)) (h2 : g env st1 = some (.nx env1 st2)) : whG f g (n + 1) env st = whG f g n env1 st2 := by
  conv => lhs; unfold whG
  rw [h]
  simp only [h2]
end
section
variable {Γ : Gam} {c e a b o : Expr} {ss : List Stmt} {es : List Expr} {ic i io ia ib : IE} {iss : ISs} {ies : IEs} {pos p0 p1 p2 p3 apos : Pos} {x m y : Str}
theorem ss_whr (h : ST Γ c ic) (hb : SSs Γ ss iss) : SS Γ (.While c ss [] pos) (.whr ic iss) := fun X p o => PS_weak (ps_while o.own (h X p o.toOkx) (hb X p o)) fun D σ H q => by
  obtain ⟨st, B, M, F, env, out, r, he, k⟩ := q
  unfold evS at he
  refine ⟨fun n σ1 H1 => ∃ st1 B1 M1 env1, Ex B B1 ∧ Rel Γ.K p st1 B1 M1 F env1 σ1 H1 ∧ whG (fun env st => ev Γ.cl ic env st) (fun env st => evSs Γ.cl iss env st) n env1 st1 = some out, ⟨most, st, B, M, env, Ex.refl B, r, he⟩, fun n σ1 H1 q => ?_⟩
  obtain ⟨st1, B1, M1, env1, x1, r1, e1⟩ := q
  cases n with
  | zero => cases e1
  | succ n =>
    unfold whG at e1
    cases e2 : ev Γ.cl ic env1 st1 with
    | none =>
      simp only [e2] at e1
      cases e1
    | some z =>
      obtain ⟨d, st2⟩ := z
      simp only [e2] at e1
      cases d <;> first | (cases e1; done) | skip
      rename_i bb
      refine ⟨st1, B1, M1, F, env1, bb, st2, r1, e2, fun B2 H2 x2 r2 => ?_⟩
      cases bb with
      | false =>
        cases e1
        exact iteF (k B2 M1 σ1 H2 (x1.trans x2) r2)
      | true =>
        refine iteT ⟨fun σ3 H3 => ∃ st3 B3 M3 env3, Ex B B3 ∧ Rel Γ.K p st3 B3 M3 F env3 σ3 H3 ∧ whG (fun env st => ev Γ.cl ic env st) (fun env st => evSs Γ.cl iss env st) n env3 st3 = some out, fun σ3 H3 q3 => ⟨n, Nat.lt_succ_self n, q3⟩, ?_⟩
        cases e3 : evSs Γ.cl iss env1 st2 with
        | none =>
          simp only [e3] at e1
          cases e1
        | some o1 =>
          simp only [e3] at e1
          refine ⟨st2, B2, M1, F, env1, o1, r2, e3, ?_⟩
          cases o1 with
          | nx ev2 st4 => exact fun B3 M3 σ3 H3 x5 r5 => ⟨st4, B3, M3, ev2, (x1.trans x2).trans x5, r5, e1⟩
          | ct ev2 st4 => exact fun B3 M3 σ3 H3 x5 r5 => ⟨st4, B3, M3, ev2, (x1.trans x2).trans x5, r5, e1⟩
          | bk ev2 st4 =>
            cases e1
            exact fun B3 M3 σ3 H3 x5 r5 => k B3 M3 σ3 H3 ((x1.trans x2).trans x5) r5
          | rt d2 st4 =>
            cases e1
            exact fun v3 B3 H3 x5 r5 p5 => k v3 B3 H3 ((x1.trans x2).trans x5) r5 p5
theorem PE_or {X : Cx} {t1 t2 : TE} (h1 : PE X e t1) (h2 : PE X e t2) : PE X e (fun σ H Q => t1 σ H Q ∨ t2 σ H Q) := ⟨fun pins s σ H Q I q => by
  rcases q with q | q
  · exact h1.run pins s σ H Q I q
  · exact h2.run pins s σ H Q I q⟩
theorem ev_dsp {cl : Cl} {gs : List (Str × Str)} {env : List Sl} {st : Pl} {z : D × Pl} (h : ev cl (.dsp gs io ies) env st = some z) : ∃ q ∈ gs, ev cl (.call q.2 (.cons io ies)) env st = some z := by
  unfold ev at h
  cases e1 : ev cl io env st with
  | none =>
    simp only [e1] at h
    cases h
  | some q =>
    obtain ⟨x, st1⟩ := q
    simp only [e1] at h
    cases e2 : clsD x with
    | none =>
      simp only [e2] at h
      cases h
    | some c =>
      simp only [e2] at h
      cases e3 : gs.lookup c with
      | none =>
        simp only [e3] at h
        cases h
      | some g =>
        simp only [e3] at h
        have hm : (c, g) ∈ gs := by
          obtain ⟨l1, l2, hl, _⟩ := List.lookup_eq_some_iff.mp e3
          rw [hl]
          simp
        refine ⟨(c, g), hm, ?_⟩
        unfold ev ag
        rw [e1]
        simp only
        cases e4 : ag cl ies env st1 with
        | none =>
          simp only [e4] at h
          cases h
        | some w =>
          obtain ⟨ds, st2⟩ := w
          simp only [e4] at h ⊢
          exact h
theorem dsp_se {c1 c2 g1 g2 : Str} (h1 : SE Γ e (.call g1 (.cons io ies))) (h2 : SE Γ e (.call g2 (.cons io ies))) : SE Γ e (.dsp [(c1, g1), (c2, g2)] io ies) := fun X p o => PE_weak (PE_or (h1 X p o) (h2 X p o)) fun σ H Q q => by
  obtain ⟨st, B, M, F, env, d, st', r, he, k⟩ := q
  obtain ⟨q, hq, e⟩ := ev_dsp he
  rcases List.mem_cons.mp hq with e1 | hq
  · subst e1
    exact .inl ⟨st, B, M, F, env, d, st', r, e, k⟩
  · rw [List.mem_singleton] at hq
    subst hq
    exact .inr ⟨st, B, M, F, env, d, st', r, e, k⟩
end
end Ip

set_option Elab.async false
set_option linter.all false
set_option maxRecDepth 100000
set_option maxHeartbeats 4000000

set_option Elab.async false
set_option linter.all false
set_option maxRecDepth 100000
set_option maxHeartbeats 4000000

set_option Elab.async false
set_option linter.all false
set_option maxRecDepth 100000
set_option maxHeartbeats 4000000

set_option Elab.async false
set_option linter.all false
set_option maxRecDepth 100000
set_option maxHeartbeats 4000000

set_option Elab.async false
set_option linter.all false
set_option maxRecDepth 100000
set_option maxHeartbeats 4000000
namespace Ip
open PySem PySem.Spec PyProof.Rows L2
section
variable {Γ : Gam} {e a b c : Expr} {ia ib ic i : IE} {x y : Str} {pos p0 p1 p2 p3 p4 p5 py : Pos}
theorem list_sf (h : SE Γ e i) (hb : Γ.bs.contains "list" = true := by rfl) (hg : GlS Γ.sc "list" := by rfl) (hs : ∀ env, starEach [e] env = (false, eval e env) :: starEach [] env := by intro _; rfl) :
    SF Γ (.Call (.Name "list" p0) [e] [] pos) (.bi .list (.cons i .nil)) := fun X p o =>
  PE_weak (pe_callTy call_list_of (o.gl hg) (o.bl _ (List.contains_iff_mem.mp hb)) (by decide +kernel) ((sa_cons h sa_nil hs) X p o) (by decide) (by decide) (hs _) rfl) fun σ H Q q => by
    obtain ⟨st, B, M, F, env, ds, st', r, he, k⟩ := q
    have ⟨z, e1, e2⟩ : ∃ z, ev Γ.cl i env st = some (z, st') ∧ biD .list [z] = some (.list ds) := by
      unfold ev at he
      unfold ea at he
      split at he
      · rename_i zs st1 e1
        split at e1
        · rename_i z st2 e3
          unfold ea at e1
          cases e1
          obtain ⟨w, h1, h2⟩ := Option.map_eq_some_iff.mp he
          cases h2
          exact ⟨z, e3, h1⟩
        · cases e1
      · cases he
    refine ⟨st, B, M, F, env, [z], st', r, by unfold ea; rw [e1]; rfl, fun vs B1 H1 x1 r1 pv => ?_⟩
    match vs, pv with
    | [_], .cons pv .nil =>
      rw [o.K]
      cases pv with
      | @lst a xs ds' hx rx =>
        cases e2
        refine ⟨a, xs, rfl, .inl (Or.inl (Or.inl (r1.bs.b _ _ hx))), fun l hl => ?_⟩
        obtain ⟨f1, f2, f3, f4⟩ := r1.freshM hl
        exact k l xs B1 _ x1 f1 f2 f3 f4 upd_same rx (r1.more hl)
      | @tup a xs ds' hx rx =>
        cases e2
        refine ⟨a, xs, rfl, .inr (sqt_mono r1.bs.b hx), fun l hl => ?_⟩
        obtain ⟨f1, f2, f3, f4⟩ := r1.freshM hl
        exact k l xs B1 _ x1 f1 f2 f3 f4 upd_same rx (r1.more hl)
      | _ => cases e2
theorem shaped_objs {ds : List D} (h : SeqAt.shaped (.list ds) = true) : noObjs ds = true := noObj_shaped h
end
end Ip

set_option Elab.async false
set_option linter.all false
set_option maxRecDepth 100000
set_option maxHeartbeats 4000000
namespace Ip
open PySem PySem.Spec PyProof.Rows L2
section
variable {Γ : Gam} {e a b c : Expr} {ia ib ic i : IE} {x y : Str} {pos p0 p1 p2 p3 p4 p5 py : Pos}
theorem ev_oin {cl : Cl} {n : Nat} {neg : Bool} {env : List Sl} {st st' : Pl} {d : D} (he : ev cl (.oin neg n i) env st = some (d, st')) : ∃ w ds, ev cl i env st = some (w, st') ∧ env[n]? = some (.ow ds) ∧ SeqAt.shaped w = true ∧ SeqAt.shaped (.list ds) = true ∧ d = .bool (neg != memD w ds) := by
  unfold ev at he
  split at he
  · rename_i w st1 e1
    split at he
    · rename_i ds e2
      obtain ⟨⟨s1, s2⟩, he⟩ := ite_some he
      cases he
      exact ⟨w, ds, e1, e2, s1, s2, rfl⟩
    · cases he
  · cases he
theorem oin_se (n : Nat) (h : SE Γ e i) (hN : Γ.N[n]? = some x := by rfl) (hv : Vis Γ.sc x := by first | exact Or.inl rfl | exact Or.inr (Or.inl rfl) | exact Or.inr (Or.inr rfl)) (hd : (x == ("__debug__" : Str)) = false := by decide) (hcd : (x == ("__classdict__" : Str)) = false := by decide) (hm : behindInMarks .In (.Name x p0) = false := by rfl) :
    SE Γ (.Compare e [.In] [.Name x p0] pos) (.oin false n i) := fun X p o =>
  PE_weak (pe_cmpR (op_inD (by have := o.units; omega)) (h X p o) (pe_var (i := n) (by rw [o.N]; exact hN) (by rw [o.sc]; exact hv) hd hcd) hm) fun σ H Q q => by
    obtain ⟨st, B, M, F, env, d, st', r, he, k⟩ := q
    obtain ⟨w, ds, e1, e2, s1, s2, rfl⟩ := ev_oin he
    obtain ⟨cc, xs, g1, g2, g3⟩ := r.own e2
    refine ⟨st, B, M, F, env, w, _, r, e1, fun u B1 H1 x1 r1 pu => ⟨_, g1, ?_⟩⟩
    rw [o.K]
    exact ⟨w, ds, Rp.dp r1.bs.b (noObj_shaped s1) pu, .lst (Or.inl (Or.inl (r1.m _ _ g2))) (RpA.dp r1.bs.b (shaped_objs s2) (g3.mono x1)), s1, s2, k _ B1 H1 x1 r1 (by rw [Bool.false_bne]; exact .bl _)⟩
theorem onin_st (n : Nat) (h : SE Γ e i) (hN : Γ.N[n]? = some x := by rfl) (hv : Vis Γ.sc x := by first | exact Or.inl rfl | exact Or.inr (Or.inl rfl) | exact Or.inr (Or.inr rfl)) (hd : (x == ("__debug__" : Str)) = false := by decide) (hcd : (x == ("__classdict__" : Str)) = false := by decide) (hm : behindInMarks .NotIn (.Name x p0) = false := by rfl) :
    ST Γ (.Compare e [.NotIn] [.Name x p0] pos) (.oin true n i) := fun X p o =>
  PT_weak (pt_cmpR (op_notInD (by have := o.units; omega)) (h X p o) (pe_var (i := n) (by rw [o.N]; exact hN) (by rw [o.sc]; exact hv) hd hcd) hm) fun σ H Q q => by
    obtain ⟨st, B, M, F, env, d, st', r, he, k⟩ := q
    obtain ⟨w, ds, e1, e2, s1, s2, q2⟩ := ev_oin he
    cases q2
    obtain ⟨cc, xs, g1, g2, g3⟩ := r.own e2
    refine ⟨st, B, M, F, env, w, _, r, e1, fun u B1 H1 x1 r1 pu => ⟨_, g1, ?_⟩⟩
    rw [o.K]
    refine ⟨w, ds, Rp.dp r1.bs.b (noObj_shaped s1) pu, .lst (Or.inl (Or.inl (r1.m _ _ g2))) (RpA.dp r1.bs.b (shaped_objs s2) (g3.mono x1)), s1, s2, _, rfl, ?_⟩
    have z := k B1 H1 x1 r1
    rw [Bool.true_bne] at z
    exact z
end
end Ip

set_option Elab.async false
set_option linter.all false
set_option maxRecDepth 100000
set_option maxHeartbeats 4000000

set_option Elab.async false
set_option linter.all false
set_option maxRecDepth 100000
set_option maxHeartbeats 4000000

set_option Elab.async false
set_option linter.all false
set_option maxRecDepth 100000
set_option maxHeartbeats 4000000

set_option Elab.async false
set_option linter.all false
set_option maxRecDepth 100000
set_option maxHeartbeats 4000000

set_option Elab.async false
set_option linter.all false
set_option maxRecDepth 100000
set_option maxHeartbeats 4000000
namespace Ip
open PySem PySem.W He NdefX L2
theorem obsXG_eq {n : Nat} {P : Program} {fa : List Fa} {fn : List DefD} {er : List ErrD} {ex : Frag → Bool} {ts : List Tab} {fx : List He5.DefA} {g : Addr → Option Obj} {s : Shared} (h : ∀ a, g a = s.heap.get? a) : obsXG n P fa fn er ex ts fx g = (hookX n P fa fn er ex ts fx).obs s := by
  obtain rfl : g = s.heap.get? := funext h
  rfl
theorem SaysX.u {P : Program} {fa : List Fa} {fn : List DefD} {er : List ErrD} {ex : Frag → Bool} {ts : List Tab} {fx : List He5.DefA} {w : World} {K : Frag} (c : SaysX P fa fn er ex ts fx w K) : SaysU P fa fn er ex ts w K := c.1
section
variable {P : Program} {w : World} {K : Frag} {mg : Str → Option Value} {base : Heap} {k : Nat} {es : List (Str × Str)} {cl : Cl} {c m : Str} {fs : List Str}
theorem itat_up {j : Nat} {q : Xt} (h : ItAt mg es P w K base cl j q) (hj : j ≤ k) : ItAt mg es P w K base cl k q := by
  cases q with
  | it c f =>
    obtain ⟨fi, fl, h1, h2, h3, h4⟩ := h
    exact ⟨fi, fl, h1, h2.mono hj, h3, h4.mono hj⟩
  | pr c m f =>
    obtain ⟨h0, pa, fa, h1, h2⟩ := h
    exact ⟨h0, pa, fa, h1, h2.mono hj⟩
  | nw c => exact h
  | of c m c2 f =>
    obtain ⟨h0, mc, pa, fa, h1, h2, h3⟩ := h
    exact ⟨h0, mc, pa, fa, h1, h2, h3.mono hj⟩
theorem nwAt_of (h : nwB K c = true) (F : ClF K mg c fs) : ItAt mg es P w K base cl k (.nw c) := by
  obtain ⟨h1, h⟩ := ba h
  obtain ⟨h2, h3⟩ := ba h
  exact ⟨F.mg, h1, eqO_ok h2, h3, F.ob⟩
end
end Ip

set_option Elab.async false
set_option linter.all false
set_option maxRecDepth 100000
set_option maxHeartbeats 4000000
namespace Ip
open PySem PySem.Spec PyProof.Rows L2
def kI (ns : List Int) : D := .tuple (ns.map PyData.int)
theorem intsD_map : ∀ {ds : List D} {ns : List Int}, intsD ds = some ns → ds = ns.map PyData.int
  | [], ns, h => by
    cases h
    rfl
  | d :: ds, ns, h => by
    cases d <;> first | (cases h; done) | skip
    rename_i n
    unfold intsD at h
    obtain ⟨ms, h1, rfl⟩ := Option.map_eq_some_iff.mp h
    rw [intsD_map h1]
    rfl
theorem keyT_eq {x : D} {ns : List Int} (h : keyT x = some ns) : x = kI ns := by
  cases x with
  | tuple ds => exact congrArg PyData.tuple (intsD_map (show intsD ds = some ns from h))
  | _ => cases h
theorem map_int_inj : ∀ {a b : List Int}, a.map PyData.int = b.map PyData.int → a = b
  | [], [], _ => rfl
  | x :: xs, y :: ys, h => by
    obtain ⟨h1, h2⟩ := List.cons.inj h
    cases h1
    rw [map_int_inj h2]
  | [], _ :: _, h => by cases h
  | _ :: _, [], h => by cases h
theorem sameD_kI (a b : List Int) : sameD (kI a) (kI b) = decide (a = b) := by
  by_cases e : a = b
  · subst e
    rw [sameD_refl, decide_eq_true rfl]
  · rw [decide_eq_false e]
    cases h : sameD (kI a) (kI b) with
    | false => rfl
    | true => exact absurd (map_int_inj (PyData.tuple.inj (sameD_eq _ _ h))) e
section
variable {K : PySem.W.Frag} {B : Hp}
theorem atKey_pos {x : TE3} {xs : List TE3} {ns : List Int} (h : x.1 = ns) : atKey (x :: xs) ns = some x.2 := by
  unfold atKey
  rw [List.find?_cons_of_pos (by rw [decide_eq_true h])]
  rfl
theorem atKey_neg {x : TE3} {xs : List TE3} {ns : List Int} (h : ¬ x.1 = ns) : atKey (x :: xs) ns = atKey xs ns := by
  unfold atKey
  rw [List.find?_cons_of_neg (by rw [decide_eq_false h]; decide)]
theorem RpT.get : ∀ {xs : List TE3} {tab : List (D × D)}, RpT K B xs tab → ∀ ns : List Int, (dGet (kI ns) tab = none → atKey xs ns = none) ∧ ∀ d, dGet (kI ns) tab = some d → ∃ b u v, atKey xs ns = some (b, u) ∧ RelV v u ∧ Rp K B v d
  | _, _, .nil, ns => ⟨fun _ => rfl, fun d h => by cases h⟩
  | _, _, .cons (ns := ms) (b := b) (u := u) (v := v) (xs := xs) (d := d0) (tab := tab) q z pv r, ns => by
    unfold dGet
    show ((if sameD (kI ms) (kI ns) = true then some d0 else dGet (kI ns) tab) = none → _) ∧ ∀ d, (if sameD (kI ms) (kI ns) = true then some d0 else dGet (kI ns) tab) = some d → _
    rw [sameD_kI]
    by_cases e : ms = ns
    · rw [decide_eq_true e, if_pos rfl, atKey_pos (x := (ms, b, u)) e]
      exact ⟨fun z => by (cases z), fun d y => by
        cases y
        exact ⟨b, u, v, rfl, z, pv⟩⟩
    · rw [decide_eq_false e, if_neg (by decide), atKey_neg (x := (ms, b, u)) e]
      exact RpT.get r ns
theorem RpT.some_ {xs : List TE3} {tab : List (D × D)} (r : RpT K B xs tab) (ns : List Int) : (atKey xs ns).isSome = (dGet (kI ns) tab).isSome := by
  cases e : dGet (kI ns) tab with
  | none =>
    rw [(r.get ns).1 e]
    rfl
  | some d =>
    obtain ⟨b, u, v, g, _⟩ := (r.get ns).2 d e
    rw [g]
    rfl
theorem RpT.len : ∀ {xs : List TE3} {tab : List (D × D)}, RpT K B xs tab → xs.length = tab.length
  | _, _, .nil => rfl
  | _, _, .cons _ _ _ r => congrArg Nat.succ (RpT.len r)
theorem RpT.snoc : ∀ {xs : List TE3} {tab : List (D × D)}, RpT K B xs tab → ∀ {ns : List Int} {b : Addr} {u : Value} {v : V} {d : D}, SqT K B b (ns.map V.int) → RelV v u → Rp K B v d → RpT K B (xs ++ [(ns, b, u)]) (tab ++ [(kI ns, d)])
  | _, _, .nil, _, _, _, _, _, q, z, h => .cons q z h .nil
  | _, _, .cons q z pv r, _, _, _, _, _, q2, z2, h => .cons q z pv (RpT.snoc r q2 z2 h)
theorem RpT.repl : ∀ {xs : List TE3} {tab : List (D × D)}, RpT K B xs tab → ∀ {ns : List Int} {u : Value} {v : V} {d : D}, RelV v u → Rp K B v d → RpT K B (xs.map (putAt ns u)) (tab.map fun q => if sameD q.1 (kI ns) = true then (q.1, d) else q)
  | _, _, .nil, _, _, _, _, _, _ => .nil
  | _, _, .cons (ns := ms) (b := b) (u := u0) (v := v0) (xs := xs) (d := d0) (tab := tab) q z pv r, ns, u, v, d, z2, h => by
    rw [List.map_cons, List.map_cons]
    have e0 : (if sameD (kI ms) (kI ns) = true then (kI ms, d) else (kI ms, d0)) = (kI ms, if ms = ns then d else d0) := by
      rw [sameD_kI]
      by_cases e : ms = ns
      · rw [if_pos e, decide_eq_true e, if_pos rfl]
      · rw [if_neg e, decide_eq_false e, if_neg (by decide)]
    show RpT K B (putAt ns u (ms, b, u0) :: _) ((if sameD (kI ms) (kI ns) = true then (kI ms, d) else (kI ms, d0)) :: _)
    rw [e0]
    unfold putAt
    by_cases e : ms = ns
    · rw [if_pos (show ((ms, b, u0) : TE3).1 = ns from e), if_pos e]
      exact .cons q z2 h (RpT.repl r z2 h)
    · rw [if_neg (show ¬ ((ms, b, u0) : TE3).1 = ns from e), if_neg e]
      exact .cons q z pv (RpT.repl r z2 h)
theorem RpT.put {xs : List TE3} {tab : List (D × D)} (r : RpT K B xs tab) (ns : List Int) {b : Addr} {u : Value} {v : V} {d : D} (q : SqT K B b (ns.map V.int)) (z : RelV v u) (h : Rp K B v d) : RpT K B (storedH xs ns b u) (dPut tab (kI ns) d) := by
  unfold storedH dPut
  rw [r.some_ ns]
  by_cases e : (dGet (kI ns) tab).isSome = true
  · rw [if_pos e, if_pos e]
    exact r.repl z h
  · rw [if_neg e, if_neg e]
    exact r.snoc q z h
theorem RpT.key : ∀ {xs : List TE3} {tab : List (D × D)}, RpT K B xs tab → ∀ x ∈ xs, SqT K B x.2.1 (x.1.map V.int)
  | _, _, .nil, x, h => by cases h
  | _, _, .cons q z pv r, x, h => by
    rcases List.mem_cons.mp h with rfl | h
    · exact q
    · exact RpT.key r x h
theorem rp_tkey {v : V} {ns : List Int} (h : Rp K B v (kI ns)) : ∃ b, v = .ref b ∧ SqT K B b (ns.map V.int) := by
  unfold kI at h
  cases h with
  | @tup a xs _ hx hr =>
    refine ⟨a, rfl, ?_⟩
    have e : ∀ {xs : List V} {ns : List Int}, RpA K B xs (ns.map PyData.int) → xs = ns.map V.int := by
      intro xs ns q
      induction ns generalizing xs with
      | nil =>
        cases q
        rfl
      | cons n ns ih =>
        cases q with
        | cons h1 h2 =>
          cases h1
          rw [ih h2]
          rfl
    rw [← e hr]
    exact hx
end
structure DtAt (K : PySem.W.Frag) (H : Hp) (a : Addr) (xs : List TE3) : Prop where
  at_ : H a = some (dTO a xs)
  key : ∀ x ∈ xs, SqT K H x.2.1 (x.1.map V.int)
theorem items_ints {P : Program} {w : World} : ∀ {ns : List Int} {its : List Value}, Vals (ns.map V.int) its → ItemsAre (intKind P w) ns its
  | [], _, .nil => .nil
  | n :: ns, _, .cons r t => by
    obtain ⟨k, rfl⟩ := (show ∃ t, _ = Value.int n t from r)
    exact .cons (by simp [PySem.intKind, Value.isInt]) (items_ints t)
section
variable {X : Cx} {pins : List (Addr × Obj)} {σ : L2.St} {H : Hp} {s : Shared} {a b : Addr} {xs : List TE3} {ns : List Int} {A : Around} {E : Value → Shared → Prop}
theorem tkey_of (I : Inv X pins σ H s) (h : SqT X.K H b (ns.map V.int)) : (tupleKind (intKind X.prog X.w)).is s.heap ns b := by
  obtain ⟨its, rv, ⟨ob, ho, hc, n, hdt⟩, hz⟩ := I.tuple h
  exact ⟨ob, its.toArray, n, ho, hc, hdt, by simpa using items_ints rv⟩
theorem dth_of (I : Inv X pins σ H s) (d : DtAt X.K H a xs) : xs.length ≤ sizeLine ∧ (a == sysModules) = false ∧ s.heap.DictOfH (tupleKind (intKind X.prog X.w)) a xs := by
  obtain ⟨⟨h1, h2, h3, o, es, ep, h4, h5, h6, h7⟩, _, _⟩ := I.hok a _ d.at_
  exact ⟨h1, h2, o, es, ep, h4, h5, h6, by rw [h7, eI_eq X.prog X.w], fun x hx => tkey_of I (d.key x hx), h3⟩
theorem t_getItem {Q : Value → Shared → Prop} {c : Addr} {u : Value} {v : V} (hu : A.units + 1 < cLine) (I : Inv X pins σ H s) (d : DtAt X.K H a xs) (hb : SqT X.K H b (ns.map V.int)) (g : atKey xs ns = some (c, u)) (rv : RelV v u) (h : ∀ w' s', Inv X pins σ H s' → RelV v w' → Q w' s') :
    wpAny (model X.prog X.w) A (getItem (.ref a) (.ref b)) Q E s := by
  obtain ⟨_, _, dd⟩ := dth_of I d
  exact wpAny_getItem_heap (show A.units + 1 < cLine from hu) (tkey_of I hb) dd g (h _ _ (I.tok _) rv)
theorem t_in {Q : Value → Shared → Prop} (hu : A.units + 1 < cLine) (I : Inv X pins σ H s) (d : DtAt X.K H a xs) (hb : SqT X.K H b (ns.map V.int)) (h : ∀ s', Inv X pins σ H s' → Q (.bool (atKey xs ns).isSome) s') :
    wpAny (model X.prog X.w) A (compareOp .In (.ref b) (.ref a)) Q E s := by
  obtain ⟨_, hd, dd⟩ := dth_of I d
  exact wpAny_in_heap (show A.units + 1 < cLine from hu) (tkey_of I hb) hd dd (h _ (I.tok _))
theorem t_get1 {Q : Value → Shared → Prop} {v : V} (hu : A.units + 1 < cLine) (I : Inv X pins σ H s) (d : DtAt X.K H a xs) (hb : SqT X.K H b (ns.map V.int)) (rv : (atKey xs ns = none ∧ v = .non) ∨ ∃ c u, atKey xs ns = some (c, u) ∧ RelV v u) (h : ∀ w' s', Inv X pins σ H s' → RelV v w' → Q w' s') :
    wpAny (model X.prog X.w) A (call (.builtin "dict.get") [.ref a, .ref b]) Q E s := by
  obtain ⟨_, hd, dd⟩ := dth_of I d
  refine call_meetsIn PySem.F.slot_dict_get dd.typeIs PySem.F.entry_dict_get (PySem.F.args_dict_get_2 _ _) (meetsH_dict_get (tupleKind (intKind X.prog X.w)) a b hd) ⟨(show A.units + 1 < cLine from hu), ns, xs, tkey_of I hb, dd, h _ _ (I.tok _) ?_⟩
  rcases rv with ⟨g, rfl⟩ | ⟨c, u, g, rv⟩
  · rw [g]
    rfl
  · rw [g]
    exact rv
theorem t_setItem {Q : Unit → Shared → Prop} {v : V} {r : Value} (hu : A.units + 1 < cLine) (I : Inv X pins σ H s) (d : DtAt X.K H a xs) (hl : xs.length < sizeLine) (hb : SqT X.K H b (ns.map V.int)) (h : ∀ s', Inv X pins σ (upd H a (dTO a (storedH xs ns b r))) s' → Q () s') :
    wpAny (model X.prog X.w) A (setItem (.ref a) (.ref b) r) Q E s := by
  obtain ⟨z, hd, dd⟩ := dth_of I d
  refine wpAny_setItem_heap (hsz := z) (show A.units + 1 < cLine from hu) (tkey_of I hb) dd fun h' dd' hs => h _ ?_
  obtain ⟨q, es, ep, hq, h2, h3, h4, _, h5⟩ := dd'
  have hl2 : (storedH xs ns b r).length ≤ sizeLine := by
    unfold storedH
    split
    · rw [List.length_map]
      exact z
    · rw [List.length_append]
      exact hl
  have new : DTs a (storedH xs ns b r) h' := ⟨hl2, hd, h5, q, es, ep, hq, h2, h3, by rw [h4, eI_eq X.prog X.w]⟩
  refine d_write I (by rw [d.at_]; exact True.intro) hs ⟨q, hq⟩ ⟨new, ⟨q, hq⟩, fun h1 h2 p st => ?_⟩
  obtain ⟨p1, p2, p3, o, es, ep, p4, p5⟩ := p
  exact ⟨p1, p2, p3, o, es, ep, st _ p4, p5⟩
theorem t_typeIs (I : Inv X pins σ H s) (d : DtAt X.K H a xs) : s.TypeIs (.ref a) "dict" := (dth_of I d).2.2.typeIs
end
def tTGet (K : PySem.W.Frag) (td ty : TE) : TE := fun σ H Q => td σ H fun x H1 => ty σ H1 fun y H2 => ∃ a xs b ns c u v, x = .ref a ∧ DtAt K H2 a xs ∧ y = .ref b ∧ SqT K H2 b (ns.map V.int) ∧ atKey xs ns = some (c, u) ∧ RelV v u ∧ Q v H2
def tTIn (K : PySem.W.Frag) (neg : Bool) (ty td : TE) : TE := fun σ H Q => ty σ H fun y H1 => td σ H1 fun x H2 => ∃ a xs b ns, x = .ref a ∧ DtAt K H2 a xs ∧ y = .ref b ∧ SqT K H2 b (ns.map V.int) ∧ Q (.bl (neg != (atKey xs ns).isSome)) H2
def tTGet1 (K : PySem.W.Frag) (td ty : TE) : TE := fun σ H Q => td σ H fun x H1 => ∃ a xs0, x = .ref a ∧ DtAt K H1 a xs0 ∧ ty σ H1 fun y H2 => ∃ xs b ns v, DtAt K H2 a xs ∧ y = .ref b ∧ SqT K H2 b (ns.map V.int) ∧ ((atKey xs ns = none ∧ v = .non) ∨ ∃ c u, atKey xs ns = some (c, u) ∧ RelV v u) ∧ Q v H2
def sTPut (K : PySem.W.Frag) (td ty tv : TE) : TS := fun D σ H => tv σ H fun v H1 => td σ H1 fun x H2 => ty σ H2 fun y H3 => ∃ a xs b ns, x = .ref a ∧ DtAt K H3 a xs ∧ xs.length < sizeLine ∧ y = .ref b ∧ SqT K H3 b (ns.map V.int) ∧ ∀ r, RelV v r → D.nx σ (upd H3 a (dTO a (storedH xs ns b r)))
section
variable {X : Cx} {o i e value : Expr} {pos pos' apos cpos : Pos} {td ty tv : TE}
theorem pe_tget (hu : X.A.units + 1 < cLine) (ho : PE X o td) (hi : PE X i ty) (hs : NoSl i) : PE X (.Subscript o i pos) (tTGet X.K td ty) := by
  refine ⟨fun pins s σ H Q I h => ?_⟩
  refine subD_of PySem.F.slot_dict_getitem.lookup hs (thn (ho.run pins s σ H _ I h) fun u s1 ⟨x, H1, I1, rx, q1⟩ => thn (hi.run pins s1 σ H1 _ I1 q1) fun iv s2 ⟨y, H2, I2, ry, a, xs, b, ns, c, u2, v, ex, d, ey, hb, g, rv, q2⟩ => ?_)
  subst ex ey
  obtain rfl : u = Value.ref a := rx
  obtain rfl : iv = Value.ref b := ry
  exact ⟨t_typeIs I2 d, t_getItem hu I2 d hb g rv fun w' s3 I3 rw' => ⟨v, H2, I3, rw', q2⟩⟩
theorem pc_tin (hu : X.A.units + 1 < cLine) (hi : PE X i ty) (ho : PE X o td) : PC X .In i o (tTIn X.K false ty td) := by
  refine ⟨fun pins s σ H Q I h => ?_⟩
  refine thn (hi.run pins s σ H _ I h) fun iv s1 ⟨y, H1, I1, ry, q1⟩ => thn (ho.run pins s1 σ H1 _ I1 q1) fun u s2 ⟨x, H2, I2, rx, a, xs, b, ns, ex, d, ey, hb, q2⟩ => ?_
  subst ex ey
  obtain rfl : u = Value.ref a := rx
  obtain rfl : iv = Value.ref b := ry
  refine t_in hu I2 d hb fun s3 I3 => ⟨.bl (atKey xs ns).isSome, H2, I3, rfl, ?_⟩
  rwa [Bool.false_bne] at q2
theorem pe_tget1 (hu : X.A.units + 1 < cLine) (ho : PE X o td) (he : PE X e ty) (m : L2.M1 X o "get" apos e cpos) : PE X (.Call (.Attribute o "get" apos) [e] [] cpos) (tTGet1 X.K td ty) := by
  refine ⟨fun pins s σ H Q I h => ?_⟩
  refine wpAny_Call_method m.base m.few m.line PySem.F.plainAttrs_dict PySem.F.slot_dict_get PySem.F.type_dict_get (thn (ho.run pins s σ H _ I h) fun u s1 ⟨x, H1, I1, rx, a, xs0, ex, d, q1⟩ => ?_)
  subst ex
  obtain rfl : u = Value.ref a := rx
  obtain ⟨_, _, dd⟩ := dth_of I1 d
  refine ⟨dd.typeIs, fun b q => ?_, ?_⟩
  · cases q
    obtain ⟨ob, _, _, h1, h2, _⟩ := dd
    exact ⟨ob, h1, h2.2.1⟩
  rw [m.trees]
  refine Calls.callWith_builtin rfl (Calls.evalArgs_plain (Calls.spliced_cons (thn (he.run pins s1 σ H1 _ I1 q1) fun iv s2 ⟨y, H2, I2, ry, xs, b, ns, v, d2, ey, hb, g, q2⟩ => Calls.spliced_nil ?_)))
  subst ey
  obtain rfl : iv = Value.ref b := ry
  exact t_get1 hu I2 d2 hb g fun w' s3 I3 rw' => ⟨_, H2, I3, rw', q2⟩
theorem ps_tput (hu : X.A.units + 1 < cLine) (ho : PE X o td) (hi : PE X i ty) (hv : PE X value tv) (hs : swapsWith value (some (.Subscript o i pos')) pos.line X.env = pure false) :
    PS X (.Assign [.Subscript o i pos'] value pos) (sTPut X.K td ty tv) := by
  refine ⟨fun pins s σ H D I h => ?_⟩
  refine wpAny_Assign_Subscript (thn (hv.run pins s σ H _ I h) fun r s1 ⟨v, H1, I1, rv, q1⟩ => thn (ho.run pins s1 σ H1 _ I1 q1) fun u s2 ⟨x, H2, I2, rx, q2⟩ => thn (hi.run pins s2 σ H2 _ I2 q2) fun iv s3 ⟨y, H3, I3, ry, a, xs, b, ns, ex, d, hl, ey, hb, q3⟩ => ?_) hs
  subst ex ey
  obtain rfl : u = Value.ref a := rx
  obtain rfl : iv = Value.ref b := ry
  exact t_setItem (v := v) hu I3 d hl hb fun s4 I4 => ⟨σ, _, I4, q3 r rv⟩
/-- {} -/
def tTNew : TE := fun _ H Q => ∀ p, H p = none → Q (.ref p) (upd H p (dTO p []))
theorem pe_tnew : PE X (.Dict [] [] pos) tTNew := ⟨fun pins s σ H Q I h => by
  have new : DTs s.heap.objs.size [] (s.heap.push { cls := .type "dict", data := .dict #[] }) := ⟨Nat.zero_le _, beq_eq_false_iff_ne.mpr (Ne.symm (Nat.ne_of_lt I.big)), List.nodup_nil, _, #[], 0, Heap.get?_push_size _ rfl, ⟨rfl, rfl, rfl⟩, rfl, rfl⟩
  refine wpAny_Dict_empty ⟨.ref s.heap.objs.size, _, I.laid (a := s.heap.objs.size) (o := dTO s.heap.objs.size []) (t' := s.toks) (fun _ _ q => Heap.get?_push_of_some _ q) (Nat.le_refl _) ⟨new, ⟨_, Heap.get?_push_size _ rfl⟩, fun h1 h2 p st => ?_⟩, rfl, h _ (I.hok.fresh (Nat.le_refl _))⟩
  obtain ⟨p1, p2, p3, o, es, ep, p4, p5⟩ := p
  exact ⟨p1, p2, p3, o, es, ep, st _ p4, p5⟩⟩
def rLenI (K : PySem.W.Frag) : List V → Hp → VK → Prop := fun vs H Q => ∃ (p : Addr) (xs : List TE3), vs = [.ref p] ∧ DtAt K H p xs ∧ Q (.int ((xs.length : Nat) : Int)) H
theorem call_len_I : CallR X (.builtin "len") (rLenI X.K) := by
  intro pins s σ H xs us Q I r h
  obtain ⟨p, ys, rfl, d, q⟩ := h
  obtain ⟨u, rfl, rx⟩ := vals1 r
  obtain rfl : u = .ref p := rx
  obtain ⟨z, hd, dd⟩ := dth_of I d
  exact call_len_dictH hd dd (by rw [sizeLine_eq] at z; omega) ⟨.int ((ys.length : Nat) : Int), H, I.tok _, ⟨_, rfl⟩, q⟩
end
end Ip

set_option Elab.async false
set_option linter.all false
set_option maxRecDepth 100000
set_option maxHeartbeats 4000000
namespace Ip
open PySem PySem.Spec PyProof.Rows L2
section
variable {K : PySem.W.Frag} {p : Pa} {st st' : Pl} {B B' M F : Hp} {env env' : List Sl} {σ σ' : L2.St} {H H' : Hp} {a : Addr} {o : HO} {tab tab' : List (D × D)}
/-- a new dict among the own things, kept by a name -/
theorem Rel.setOt {xs : List TE3} (r : Rel K p st B M F env σ H) (f : Fr B M F p a) (ha : H a = some (dTO a xs)) (rx : RpT K B xs tab) (j : Nat) (hio : ∀ c, p.io ≠ some (j, c)) : Rel K p st B (upd M a (dTO a xs)) F (env.set j (.od true tab)) (σ.set j (some (.ref a))) H where
  bs := r.bs
  m := (r.take f ha).m
  md := (r.take f ha).md
  mc := (r.take f ha).mc
  mt := (r.take f ha).mt
  en := {
    len := by rw [List.length_set, List.length_set]; exact r.en.len
    at_ := fun i s hi => by
      by_cases e : j = i
      · subst e
        have hl : j < env.length := by
          have := (List.getElem?_eq_some_iff.mp hi).1
          rw [List.length_set] at this
          exact this
        rw [List.getElem?_set_self hl] at hi
        cases hi
        exact ⟨some (.ref a), List.getElem?_set_self (by rw [← r.en.len]; exact hl), a, _, rfl, upd_same, xs, rfl, rx⟩
      · rw [List.getElem?_set_ne e] at hi
        obtain ⟨w, h1, h2⟩ := r.en.at_ i s hi
        exact ⟨w, by rw [List.getElem?_set_ne e]; exact h1, h2.up f.m⟩
    ap := r.en.apNew f.m j
    io := fun i c es hp hi => by
      by_cases e : j = i
      · subst e
        exact absurd hp (hio c)
      · rw [List.getElem?_set_ne e] at hi ⊢
        exact r.en.io i c es hp hi }
/-- an own dict changes -/
theorem Rel.growT {xs xs' : List TE3} (r : Rel K p st B M F env σ H) {i : Nat} (he : env[i]? = some (.od true tab)) (hs : σ[i]? = some (some (.ref a))) (hm : M a = some (dTO a xs)) (ry : RpT K B xs' tab') :
    Rel K p st B (upd M a (dTO a xs')) F (env.set i (.od true tab')) σ (upd H a (dTO a xs')) where
  bs := by
    obtain ⟨h1, h2, h3⟩ := r.md a _ hm
    have hc : ∀ k c, p.ca k = some c → c ≠ a := fun k c hk e => by
      have := r.mc k c hk
      rw [e, hm] at this
      cases this
    refine ⟨r.bs.b.right h1, r.bs.f.right h2, r.bs.d, r.bs.pf, r.bs.pb, ?_, r.bs.ce.up (fun k c hk => ⟨(r.bs.ce.b k c hk).1, (r.bs.ce.b k c hk).2.1⟩) (fun k c hk => by rw [upd_ne (hc k c hk)]) r.bs.ce.tn fun z => tabs_dt z (r.m _ _ hm)⟩
    obtain ⟨h4, h5⟩ := r.bs.pl
    exact ⟨by rw [upd_ne (fun e => h3 e.symm)]; exact h4, h5⟩
  m := r.m.up
  md := fun b u h => by
    by_cases hb : b = a
    · subst hb
      exact r.md b _ hm
    · rw [upd_ne hb] at h
      exact r.md b u h
  mc := fun k c hk => by
    rw [upd_ne (fun e => by
      have := r.mc k c hk
      rw [e, hm] at this
      cases this)]
    exact r.mc k c hk
  mt := fun q hq => by
    rw [upd_ne (r.mtn hm q hq)]
    exact r.mt q hq
  en := {
    len := by rw [List.length_set]; exact r.en.len
    at_ := fun k s hk => by
      by_cases e : i = k
      · subst e
        have hl : i < env.length := (List.getElem?_eq_some_iff.mp he).1
        rw [List.getElem?_set_self hl] at hk
        cases hk
        exact ⟨_, hs, a, _, rfl, upd_same, xs', rfl, ry⟩
      · rw [List.getElem?_set_ne e] at hk
        obtain ⟨w, h1, h2⟩ := r.en.at_ k s hk
        refine ⟨w, h1, ?_⟩
        cases s with
        | ow fs =>
          cases w with
          | none => exact h2
          | some v =>
            cases v with
            | ref b =>
              obtain ⟨zs, h3, h4⟩ := h2
              have hba : b ≠ a := fun z => e (r.en.ap i k _ _ a rfl rfl he hk hs (by rw [h1, z]))
              exact ⟨zs, by rw [upd_ne hba]; exact h3, h4⟩
            | _ => exact h2
        | no => exact h2
        | im d =>
          cases w with
          | none => exact h2
          | some v => exact h2
        | pl =>
          cases w with
          | none => exact h2
          | some v => cases v <;> exact h2
        | er c d => exact h2
        | dk t => exact h2
        | sf => exact h2
        | od t tab =>
          obtain ⟨b, u, g1, g2, g3⟩ := h2
          subst g1
          refine ⟨b, u, rfl, ?_, g3⟩
          rw [upd_ne (fun z => e (r.en.ap i k _ _ a rfl rfl he hk hs (by rw [h1, z])))]
          exact g2
        | ce k =>
          cases w with
          | none => exact h2
          | some v => cases v <;> exact h2
    ap := r.en.ap.less fun k s hs hk => by
      by_cases e : i = k
      · subst e
        exact ⟨_, rfl, he⟩
      · rw [List.getElem?_set_ne e] at hk
        exact ⟨_, hs, hk⟩
    io := fun k c es' hp hk => by
      by_cases e : i = k
      · subst e
        rw [List.getElem?_set_self (List.getElem?_eq_some_iff.mp he).1] at hk
        cases hk
      · rw [List.getElem?_set_ne e] at hk
        exact r.en.io k c es' hp hk }

theorem tc_at (r : Rel K p st B M F env σ H) {j : Nat} {s : Sl} (h : env[j]? = some s) (hs : tcSl s = some tab) : ∃ (a : Addr) (xs : List TE3), σ[j]? = some (some (.ref a)) ∧ DtAt K H a xs ∧ RpT K B xs tab := by
  obtain ⟨w, h1, h2⟩ := r.en.at_ j _ h
  have dt : ∀ {a : Addr} {xs : List TE3}, H a = some (dTO a xs) → RpT K B xs tab → DtAt K H a xs := fun g1 g2 => ⟨g1, fun x hx => sqt_mono r.bs.b (g2.key x hx)⟩
  cases s with
  | od t tb =>
    cases t with
    | false => cases hs
    | true =>
      cases hs
      obtain ⟨a, u, rfl, g2, xs, rfl, g3⟩ := h2
      exact ⟨a, xs, h1, dt (r.m _ _ g2) g3, g3⟩
  | im d =>
    cases w with
    | none => exact h2.elim
    | some v =>
      have h2 : Rp K B v d := h2
      cases h2 with
      | @dctT a xs _ hx rx =>
        cases hs
        exact ⟨a, xs, h1, dt (r.bs.b _ _ hx) rx, rx⟩
      | _ => cases hs
  | _ => cases hs
end
section
variable {cl : Cl} {neg : Bool} {n : Nat} {i z : IE} {env : List Sl} {st st' : Pl} {d : D}
theorem tcin_rd (he : ev cl (.tcin neg n i) env st = some (d, st')) : ∃ ns s tab, ev cl i env st = some (kI ns, st') ∧ env[n]? = some s ∧ tcSl s = some tab ∧ d = .bool (neg != (dGet (kI ns) tab).isSome) := by
  unfold ev at he
  split at he
  · rename_i x st1 e1
    split at he
    · rename_i s e2
      split at he
      · rename_i tab e3
        obtain ⟨h1, h2⟩ := ite_some he
        cases h2
        obtain ⟨ns, h3⟩ := Option.isSome_iff_exists.mp h1
        cases keyT_eq h3
        exact ⟨ns, s, tab, e1, e2, e3, rfl⟩
      · cases he
    · cases he
  · cases he
theorem tcget_rd (he : ev cl (.tcget n i) env st = some (d, st')) : ∃ ns s tab, ev cl i env st = some (kI ns, st') ∧ env[n]? = some s ∧ tcSl s = some tab ∧ dGet (kI ns) tab = some d := by
  unfold ev at he
  split at he
  · rename_i x st1 e1
    split at he
    · rename_i s e2
      split at he
      · rename_i tab e3
        by_cases hk : (keyT x).isSome = true
        · rw [if_pos hk] at he
          obtain ⟨y, h1, h2⟩ := Option.map_eq_some_iff.mp he
          cases h2
          obtain ⟨ns, h3⟩ := Option.isSome_iff_exists.mp hk
          cases keyT_eq h3
          exact ⟨ns, s, tab, e1, e2, e3, h1⟩
        · rw [if_neg hk] at he
          cases he
      · cases he
    · cases he
  · cases he
theorem tcgt1_rd (he : ev cl (.tcgt1 n i) env st = some (d, st')) : ∃ ns s tab, ev cl i env st = some (kI ns, st') ∧ env[n]? = some s ∧ tcSl s = some tab ∧ d = (dGet (kI ns) tab).getD .none := by
  unfold ev at he
  split at he
  · rename_i x st1 e1
    split at he
    · rename_i s e2
      split at he
      · rename_i tab e3
        obtain ⟨h1, h2⟩ := ite_some he
        cases h2
        obtain ⟨ns, h3⟩ := Option.isSome_iff_exists.mp h1
        cases keyT_eq h3
        exact ⟨ns, s, tab, e1, e2, e3, rfl⟩
      · cases he
    · cases he
  · cases he
theorem tclen_rd (he : ev cl (.tclen n) env st = some (d, st')) : ∃ s tab, env[n]? = some s ∧ tcSl s = some tab ∧ d = .int tab.length ∧ st' = st := by
  unfold ev at he
  split at he
  · rename_i s e2
    split at he
    · rename_i tab e3
      cases he
      exact ⟨s, tab, e2, e3, rfl, rfl⟩
    · cases he
  · cases he
end
section
variable {Γ : Gam} {a b e : Expr} {i ia ib : IE} {pos p0 p1 p2 p3 apos : Pos} {x : Str}
theorem tcget_se (j : Nat) (h : SE Γ a i) (hN : Γ.N[j]? = some x := by rfl) (hv : Vis Γ.sc x := by first | exact Or.inl rfl | exact Or.inr (Or.inl rfl) | exact Or.inr (Or.inr rfl)) (hd : (x == ("__debug__" : Str)) = false := by decide) (hcd : (x == ("__classdict__" : Str)) = false := by decide) (hs : NoSl a := by intro _ _; rfl) :
    SE Γ (.Subscript (.Name x p1) a p2) (.tcget j i) := fun X p o =>
  PE_weak (pe_tget (by have := o.units; omega) (pe_var (i := j) (by rw [o.N]; exact hN) (by rw [o.sc]; exact hv) hd hcd) (h X p o) hs) fun σ H Q q => by
    obtain ⟨st, B, M, F, env, d, st', r, he, k⟩ := q
    obtain ⟨ns, s, tab, e1, e2, e3, e4⟩ := tcget_rd he
    obtain ⟨c, xs, h1, _, _⟩ := tc_at r e2 e3
    refine ⟨.ref c, h1, st, B, M, F, env, _, st', r, e1, fun v B1 H1 x1 r1 pv => ?_⟩
    obtain ⟨b, rfl, hb⟩ := rp_tkey pv
    obtain ⟨c2, xs2, h2, hD, hK⟩ := tc_at r1 e2 e3
    rw [h1] at h2
    cases h2
    obtain ⟨b2, u, v, g1, g2, g3⟩ := (hK.get ns).2 d e4
    rw [o.K]
    exact ⟨c, xs2, b, ns, b2, u, v, rfl, hD, rfl, sqt_mono r1.bs.b hb, g1, g2, k v B1 H1 x1 r1 g3⟩
theorem tcin_st (j : Nat) (h : SE Γ a i) (hN : Γ.N[j]? = some x := by rfl) (hv : Vis Γ.sc x := by first | exact Or.inl rfl | exact Or.inr (Or.inl rfl) | exact Or.inr (Or.inr rfl)) (hd : (x == ("__debug__" : Str)) = false := by decide) (hcd : (x == ("__classdict__" : Str)) = false := by decide) (hm : behindInMarks .In (.Name x p0) = false := by rfl) :
    ST Γ (.Compare a [.In] [.Name x p0] pos) (.tcin false j i) := fun X p o =>
  PT_weak (pt_cmp (pc_tin (by have := o.units; omega) (h X p o) (pe_var (i := j) (by rw [o.N]; exact hN) (by rw [o.sc]; exact hv) hd hcd)) hm) fun σ H Q q => by
    obtain ⟨st, B, M, F, env, d, st', r, he, k⟩ := q
    obtain ⟨ns, s, tab, e1, e2, e3, ed⟩ := tcin_rd he
    cases ed
    refine ⟨st, B, M, F, env, _, st', r, e1, fun v B1 H1 x1 r1 pv => ?_⟩
    obtain ⟨b, rfl, hb⟩ := rp_tkey pv
    obtain ⟨c, xs, h2, hD, hK⟩ := tc_at r1 e2 e3
    rw [o.K]
    refine ⟨.ref c, h2, c, xs, b, ns, rfl, hD, rfl, sqt_mono r1.bs.b hb, _, rfl, ?_⟩
    rw [hK.some_ ns]
    exact k B1 H1 x1 r1
theorem tcgt1_se (j : Nat) (h : SE Γ a i) (hm : ∀ X : Cx, L2.M1 X (.Name x p1) "get" apos a pos := by intro _; exact ⟨rfl, rfl, rfl, rfl⟩) (hN : Γ.N[j]? = some x := by rfl) (hv : Vis Γ.sc x := by first | exact Or.inl rfl | exact Or.inr (Or.inl rfl) | exact Or.inr (Or.inr rfl)) (hd : (x == ("__debug__" : Str)) = false := by decide) (hcd : (x == ("__classdict__" : Str)) = false := by decide) :
    SE Γ (.Call (.Attribute (.Name x p1) "get" apos) [a] [] pos) (.tcgt1 j i) := fun X p o =>
  PE_weak (pe_tget1 (by have := o.units; omega) (pe_var (i := j) (by rw [o.N]; exact hN) (by rw [o.sc]; exact hv) hd hcd) (h X p o) (hm X)) fun σ H Q q => by
    obtain ⟨st, B, M, F, env, d, st', r, he, k⟩ := q
    obtain ⟨ns, s, tab, e1, e2, e3, rfl⟩ := tcgt1_rd he
    obtain ⟨c, xs, h1, hD0, _⟩ := tc_at r e2 e3
    rw [o.K]
    refine ⟨.ref c, h1, c, xs, rfl, hD0, st, B, M, F, env, _, st', r, e1, fun v B1 H1 x1 r1 pv => ?_⟩
    obtain ⟨b, rfl, hb⟩ := rp_tkey pv
    obtain ⟨c2, xs2, h2, hD, hK⟩ := tc_at r1 e2 e3
    rw [h1] at h2
    cases h2
    cases e5 : dGet (kI ns) tab with
    | none =>
      rw [e5] at k
      exact ⟨xs2, b, ns, .non, hD, rfl, sqt_mono r1.bs.b hb, .inl ⟨(hK.get ns).1 e5, rfl⟩, k _ B1 H1 x1 r1 .non⟩
    | some d =>
      rw [e5] at k
      obtain ⟨b2, u, v, g1, g2, g3⟩ := (hK.get ns).2 d e5
      exact ⟨xs2, b, ns, v, hD, rfl, sqt_mono r1.bs.b hb, .inr ⟨b2, u, g1, g2⟩, k _ B1 H1 x1 r1 g3⟩
theorem tclen_se (j : Nat) (hN : Γ.N[j]? = some x := by rfl) (hb : Γ.bs.contains "len" = true := by rfl) (hg : GlS Γ.sc "len" := by rfl) (hv : Vis Γ.sc x := by first | exact Or.inl rfl | exact Or.inr (Or.inl rfl) | exact Or.inr (Or.inr rfl)) (hd : (x == ("__debug__" : Str)) = false := by decide) (hcd : (x == ("__classdict__" : Str)) = false := by decide) :
    SE Γ (.Call (.Name "len" p0) [.Name x p1] [] pos) (.tclen j) := fun X p o => by
  refine PE_weak (pe_callB call_len_I (o.gl hg) (o.bl _ (List.contains_iff_mem.mp hb)) (by decide +kernel) (pa_cons (pe_var (i := j) (by rw [o.N]; exact hN) (by rw [o.sc]; exact hv) hd hcd) pa_nil rfl) (by decide) (by decide) rfl rfl) fun σ H Q q => ?_
  obtain ⟨st, B, M, F, env, d, st', r, he, k⟩ := q
  obtain ⟨s, tab, e2, e3, rfl, rfl⟩ := tclen_rd he
  obtain ⟨c, xs, h1, hD, hK⟩ := tc_at r e2 e3
  rw [o.K]
  refine ⟨.ref c, h1, c, xs, rfl, hD, ?_⟩
  rw [hK.len]
  exact k _ B _ (Ex.refl B) r (.int _)
/-- x = {} -/
theorem ss_tnew (j : Nat) (hio : (Γ.io == some j) = false := by rfl) (hN : Γ.N[j]? = some x := by rfl) (hl : Loc Γ.sc x := by first | exact Or.inl rfl | exact Or.inr rfl) (hs : ∀ env, swapsWith (.Dict [] [] p1) (some (.Name x p0)) pos.line env = pure false := by intro _; rfl) : SS Γ (.Assign [.Name x p0] (.Dict [] [] p1) pos) (.tnew j) := fun X p o =>
  PS_weak (ps_set (i := j) (by rw [o.N]; exact o.nd) (by rw [o.N]; exact hN) (by rw [o.sc]; exact hl) pe_tnew (hs _) (.inl (o.fnx x))) fun D σ H q => by
    obtain ⟨st, B, M, F, env, out, r, he, k⟩ := q
    unfold evS at he
    cases he
    intro q hq
    have f := r.fr hq
    exact k B _ _ _ (Ex.refl B) ((r.more hq).setOt f upd_same .nil j (o.noIo hio))
/-- x[a] = e -/
theorem ss_tput (n : Nat) (ha : SE Γ a ia) (h : SE Γ e i) (hN : Γ.N[n]? = some x := by rfl) (hv : Vis Γ.sc x := by first | exact Or.inl rfl | exact Or.inr (Or.inl rfl) | exact Or.inr (Or.inr rfl)) (hd : (x == ("__debug__" : Str)) = false := by decide) (hcd : (x == ("__classdict__" : Str)) = false := by decide)
    (hs : ∀ env, swapsWith e (some (.Subscript (.Name x p0) a p1)) pos.line env = pure false := by intro _; rfl) : SS Γ (.Assign [.Subscript (.Name x p0) a p1] e pos) (.tput n ia i) := fun X p o =>
  PS_weak (ps_tput (by have := o.units; omega) (pe_var (i := n) (by rw [o.N]; exact hN) (by rw [o.sc]; exact hv) hd hcd) (ha X p o.toOkx) (h X p o.toOkx) (hs _)) fun D σ H q => by
    obtain ⟨st, B, M, F, env, out, r, he, kk⟩ := q
    unfold evS at he
    split at he
    · rename_i d st1 e1
      split at he
      · rename_i y st2 e3
        split at he
        · rename_i tab e2
          obtain ⟨⟨hk, hl⟩, he⟩ := ite_some he
          subst he
          refine ⟨st, B, M, F, env, d, st1, r, e1, fun v B' H' x1 r' pv => ?_⟩
          obtain ⟨c, xs, g1, _, _⟩ := r'.ownT e2
          refine ⟨_, g1, st1, B', M, F, env, _, st2, r', e3, fun u B2 H2 x2 r2 pu => ?_⟩
          obtain ⟨ns, hk2⟩ := Option.isSome_iff_exists.mp hk
          cases keyT_eq hk2
          obtain ⟨b, rfl, hb⟩ := rp_tkey pu
          obtain ⟨c2, xs2, g2, g3, g4⟩ := r2.ownT e2
          rw [g1] at g2
          cases g2
          rw [o.K]
          refine ⟨c, xs2, b, ns, rfl, ⟨r2.m _ _ g3, fun x hx => sqt_mono r2.bs.b (g4.key x hx)⟩, most_lt (by rw [g4.len]; exact hl), rfl, sqt_mono r2.bs.b hb, fun w rw_ => ?_⟩
          exact kk B2 _ σ _ (x1.trans x2) (r2.growT e2 g1 g3 (g4.put ns hb rw_ (pv.mono x2)))
        · cases he
      · cases he
    · cases he
theorem sw_falseL {elt : Expr} {gs : List Comprehension} {scope : Scope} {pos py : Pos} {y : Str} {l : Nat} {env : Env} (hy : env.scope.names.lookup y = some .cell) : swapsWith (.ListComp elt gs scope pos) (some (.Name y py)) l env = pure false := by
  have ky : env.kindOf y = some .cell := hy
  have e : (some NameKind.cell == some NameKind.local) = false := by decide
  unfold swapsWith
  simp only [ky, e, Bool.and_false, Bool.false_and]
/-- x = [.. for ..], x captured by another comprehension -/
theorem ss_setC (j : Nat) {elt : Expr} {gs : List Comprehension} {scope : Scope} (h : SE Γ (.ListComp elt gs scope p1) i) (hN : Γ.N[j]? = some x := by rfl) (hlv : Γ.sc.names.lookup x = some .cell := by rfl) : SS Γ (.Assign [.Name x p0] (.ListComp elt gs scope p1) pos) (.set j i) := fun X p o =>
  PS_weak (ps_set (i := j) (by rw [o.N]; exact o.nd) (by rw [o.N]; exact hN) (by rw [o.sc]; exact Or.inr hlv) (h X p o.toOkx) (sw_falseL (by rw [o.sc]; exact hlv)) (.inl (o.fnx x))) fun D σ H q => by
    obtain ⟨st, B, M, F, env, out, r, he, k⟩ := q
    unfold evS at he
    split at he
    · rename_i d st1 e1
      cases he
      exact ⟨st, B, M, F, env, d, st1, r, e1, fun v B' H' x r' pv => k B' M _ H' x (r'.set pv j)⟩
    · cases he
end
end Ip

set_option Elab.async false
set_option linter.all false
set_option maxRecDepth 100000
set_option maxHeartbeats 4000000
namespace K24
open PySem L2 Ip
abbrev gs : List (Str × PyData) := []
abbrev df : List (Str × List Cst × List Str) := []
abbrev oc : List (Str × List Str) := [("WovenTasks", ["weaving"]), ("WaitTasks", [])]
abbrev kd : List (Str × List (Str × PyData)) := []
def n_pick_at : List Str := ["picks", "at"]
abbrev g_pick_at (K : PySem.W.Frag) (cl : Cl) : Gam := { N := n_pick_at, sc := defScope (top 1), K := K, cl := cl, fs := [], bs := ["len"], xs := [], es := es, hs := [], hot := false, ks := ks, ts := ts, gs := gs, df := df, gn := [], kd := kd, lx := [], lm := false, io := none, fr := false, fi := [], ff := [], oc := oc, ms := [], mkr := [], its := [] }
theorem d_pick_at (K : PySem.W.Frag) (cl : Cl) : SSs (g_pick_at K cl) (defBody (top 1)) I_pick_at.body :=
(sss_cons (ss_ret (se_ifx (cmp_st cLt (se_var 1) (len_se (se_var 0)) rfl) (ix_se (se_var 0) (se_var 1)) se_int))
sss_nil)
theorem s_pick_at : FnScope n_pick_at ["picks", "at"] (defScope (top 1)) := ⟨rfl, rfl, rfl, by decide +kernel, rfl, by decide +kernel, by decide +kernel⟩
def n_law_mixed : List Str := ["_law_cell", "_law_turn", "_law_limit", "_law_first", "_law_second", "_law_third"]
abbrev g_law_mixed (K : PySem.W.Frag) (cl : Cl) : Gam := { N := n_law_mixed, sc := defScope (top 7), K := K, cl := cl, fs := [], bs := ["int"], xs := [], es := es, hs := [], hot := false, ks := ks, ts := ts, gs := gs, df := df, gn := [], kd := kd, lx := [], lm := false, io := none, fr := false, fi := [], ff := [], oc := oc, ms := [], mkr := [], its := [] }
theorem d_law_mixed (K : PySem.W.Frag) (cl : Cl) : SSs (g_law_mixed K cl) (defBody (top 7)) I_law_mixed.body :=
(sss_cons (ss_set 3 (bin_mod (int_se (bin_add (bin_add (bin_mul (se_var 0) se_int) (bin_mul (se_var 1) se_int)) se_int)) se_int))
(sss_cons (ss_set 4 (bin_mod (int_se (bin_add (bin_add (bin_mul (se_var 3) se_int) (bin_mul (se_var 0) se_int)) (bin_mul (se_var 1) se_int))) se_int))
(sss_cons (ss_set 5 (bin_mod (int_se (bin_add (bin_mul (se_var 4) se_int) (bin_fdv (se_var 3) se_int))) se_int))
(sss_cons (ss_ret (bin_mod (int_se (se_var 5)) (se_var 2)))
sss_nil))))
theorem s_law_mixed : FnScope n_law_mixed ["_law_cell", "_law_turn", "_law_limit"] (defScope (top 7)) := ⟨rfl, rfl, rfl, by decide +kernel, rfl, by decide +kernel, by decide +kernel⟩
def n_law_draw : List Str := ["_law_pool_here", "_law_limit", "_law_digit", "_law_cell"]
abbrev g_law_draw (K : PySem.W.Frag) (cl : Cl) : Gam := { N := n_law_draw, sc := defScope (top 8), K := K, cl := cl, fs := ["_law_mixed"], bs := ["int", "len"], xs := [], es := es, hs := [], hot := false, ks := ks, ts := ts, gs := gs, df := df, gn := [], kd := kd, lx := [], lm := false, io := none, fr := false, fi := [], ff := [], oc := oc, ms := [], mkr := [], its := [] }
theorem d_law_draw (K : PySem.W.Frag) (cl : Cl) : SSs (g_law_draw K cl) (defBody (top 8)) I_law_draw.body :=
(sss_cons (ss_iff (cmp_st cGt (pix_se 0 2) se_int rfl)
(sss_cons (ss_set 2 (bin_mod (int_se (pix_se 0 2)) (se_var 1)))
(sss_cons (ss_pput 0 2 (bin_fdv (pix_se 0 2) (se_var 1)))
(sss_cons (ss_ret (se_var 2))
sss_nil)))
sss_nil)
(sss_cons (ss_iff (cmp_st cGt (pix_se 0 4) se_int rfl)
(sss_cons (ss_pput 0 4 (bin_sub (pix_se 0 4) se_int))
(sss_cons (ss_ret (call_se (sg_cons (pix_se 0 3) (sg_cons (pix_se 0 4) (sg_cons (se_var 1) sg_nil)))))
sss_nil))
sss_nil)
(sss_cons (ss_iff (cmp_st cGe (pix_se 0 1) (plen_se 0) rfl)
(sss_cons (ss_ret se_int)
sss_nil)
sss_nil)
(sss_cons (ss_set 3 (pcel_se 0))
(sss_cons (ss_pput 0 1 (bin_add (pix_se 0 1) se_int))
(sss_cons (ss_iff (cmp_st cLt (se_var 3) se_int rfl)
(sss_cons (ss_set 3 (bin_sub (se_neg se_int) (se_var 3)))
sss_nil)
sss_nil)
(sss_cons (ss_iff (cmp_st cGe (se_var 3) (bin_pow se_int se_int) rfl)
(sss_cons (ss_pput 0 2 (bin_fdv (se_var 3) (se_var 1)))
(sss_cons (ss_ret (bin_mod (int_se (se_var 3)) (se_var 1)))
sss_nil))
sss_nil)
(sss_cons (ss_pput 0 3 (se_var 3))
(sss_cons (ss_pput 0 4 se_int)
(sss_cons (ss_ret (call_se (sg_cons (se_var 3) (sg_cons se_int (sg_cons (se_var 1) sg_nil)))))
sss_nil))))))))))
theorem s_law_draw : FnScope n_law_draw ["_law_pool_here", "_law_limit"] (defScope (top 8)) := ⟨rfl, rfl, rfl, by decide +kernel, rfl, by decide +kernel, by decide +kernel⟩
def n_law_is_int : List Str := ["_law_thing"]
abbrev g_law_is_int (K : PySem.W.Frag) (cl : Cl) : Gam := { N := n_law_is_int, sc := defScope (top 9), K := K, cl := cl, fs := [], bs := ["isinstance", "int", "bool"], xs := [], es := es, hs := [], hot := false, ks := ks, ts := ts, gs := gs, df := df, gn := [], kd := kd, lx := [], lm := false, io := none, fr := false, fi := [], ff := [], oc := oc, ms := [], mkr := [], its := [] }
theorem d_law_is_int (K : PySem.W.Frag) (cl : Cl) : SSs (g_law_is_int K cl) (defBody (top 9)) I_law_is_int.body :=
(sss_cons (ss_ret (se_and (isi_se .int (se_var 0)) (se_one (se_not (isi_se .bool (se_var 0))))))
sss_nil)
theorem s_law_is_int : FnScope n_law_is_int ["_law_thing"] (defScope (top 9)) := ⟨rfl, rfl, rfl, by decide +kernel, rfl, by decide +kernel, by decide +kernel⟩
def n_law_same : List Str := ["_law_mine", "_law_due", "_law_k"]
abbrev g_law_same (K : PySem.W.Frag) (cl : Cl) : Gam := { N := n_law_same, sc := defScope (top 10), K := K, cl := cl, fs := ["_law_same", "_law_is_int"], bs := ["range", "len", "isinstance", "tuple", "list", "str", "int", "bool"], xs := [], es := es, hs := [], hot := false, ks := ks, ts := ts, gs := gs, df := df, gn := [], kd := kd, lx := [], lm := false, io := none, fr := false, fi := [], ff := [], oc := oc, ms := [], mkr := [], its := [] }
theorem d_law_same (K : PySem.W.Frag) (cl : Cl) : SSs (g_law_same K cl) (defBody (top 10)) I_law_same.body :=
(sss_cons (ss_iff (cmp_st cIs (se_var 1) se_non rfl)
(sss_cons (ss_ret (cmp_se cIs (se_var 0) se_non rfl))
sss_nil)
sss_nil)
(sss_cons (ss_iff (st_se (isi_se .bool (se_var 1)))
(sss_cons (ss_ret (se_and (isi_se .bool (se_var 0)) (se_one (cmp_se cEq (se_var 0) (se_var 1) rfl))))
sss_nil)
sss_nil)
(sss_cons (ss_iff (st_se (isi_se .int (se_var 1)))
(sss_cons (ss_ret (se_and (call_se (sg_cons (se_var 0) sg_nil)) (se_one (cmp_se cEq (se_var 0) (se_var 1) rfl))))
sss_nil)
sss_nil)
(sss_cons (ss_iff (st_se (isi_se .str (se_var 1)))
(sss_cons (ss_ret (se_and (isi_se .str (se_var 0)) (se_one (cmp_se cEq (se_var 0) (se_var 1) rfl))))
sss_nil)
sss_nil)
(sss_cons (ss_iff (st_sw (sw_and (st_se (isi_se .list (se_var 1))) (sw_and1 (st_not (st_se (isi_se .list (se_var 0)))))))
(sss_cons (ss_ret se_bl)
sss_nil)
sss_nil)
(sss_cons (ss_iff (st_sw (sw_and (st_se (isi_se .tuple (se_var 1))) (sw_and1 (st_not (st_se (isi_se .tuple (se_var 0)))))))
(sss_cons (ss_ret se_bl)
sss_nil)
sss_nil)
(sss_cons (ss_iff (cmp_st cNe (len_se (se_var 0)) (len_se (se_var 1)) rfl)
(sss_cons (ss_ret se_bl)
sss_nil)
sss_nil)
(sss_cons (ss_for (si_rng1 (len_se (se_var 1))) (tg_one 2)
(sss_cons (ss_iff (st_not (st_se (call_se (sg_cons (ix_se (se_var 0) (se_var 2)) (sg_cons (ix_se (se_var 1) (se_var 2)) sg_nil)))))
(sss_cons (ss_ret se_bl)
sss_nil)
sss_nil)
sss_nil))
(sss_cons (ss_ret se_bl)
sss_nil)))))))))
theorem s_law_same : FnScope n_law_same ["_law_mine", "_law_due"] (defScope (top 10)) := ⟨rfl, rfl, rfl, by decide +kernel, rfl, by decide +kernel, by decide +kernel⟩
def n_law_numbers : List Str := ["_law_pool_here", "_law_size", "_law_numbers_here", "_law_k", "_law_number"]
abbrev g_law_numbers (K : PySem.W.Frag) (cl : Cl) : Gam := { N := n_law_numbers, sc := defScope (top 11), K := K, cl := cl, fs := ["_law_draw"], bs := ["range"], xs := [], es := es, hs := [], hot := false, ks := ks, ts := ts, gs := gs, df := df, gn := [], kd := kd, lx := [], lm := false, io := none, fr := false, fi := [], ff := [], oc := oc, ms := [], mkr := [], its := [] }
theorem d_law_numbers (K : PySem.W.Frag) (cl : Cl) : SSs (g_law_numbers K cl) (defBody (top 11)) I_law_numbers.body :=
(sss_cons (ss_set 1 (ix_se (lst_se (sa_cons (call_se (sg_pool 0 (sg_cons se_int sg_nil))) (sa_cons (call_se (sg_pool 0 (sg_cons se_int sg_nil))) (sa_cons (call_se (sg_pool 0 (sg_cons se_int sg_nil))) sa_nil)))) (call_se (sg_pool 0 (sg_cons se_int sg_nil)))))
(sss_cons (ss_own 2 (lst_sf sa_nil))
(sss_cons (ss_for (si_rng1 (se_var 1)) (tg_one 3)
(sss_cons (ss_set 4 (call_se (sg_pool 0 (sg_cons (ix_se (lst_se (sa_cons se_int (sa_cons se_int (sa_cons se_int (sa_cons (bin_pow se_int se_int) sa_nil))))) (call_se (sg_pool 0 (sg_cons se_int sg_nil)))) sg_nil))))
(sss_cons (ss_iff (cmp_st cEq (call_se (sg_pool 0 (sg_cons se_int sg_nil))) se_int rfl)
(sss_cons (ss_set 4 (bin_add (bin_mul (bin_add (se_var 4) se_int) (bin_pow se_int se_int)) (call_se (sg_pool 0 (sg_cons (bin_pow se_int se_int) sg_nil)))))
sss_nil)
sss_nil)
(sss_cons (ss_app 2 (se_var 4))
sss_nil))))
(sss_cons (ss_frz [2] (ss_ret (se_var 2)))
sss_nil))))
theorem s_law_numbers : FnScope n_law_numbers ["_law_pool_here"] (defScope (top 11)) := ⟨rfl, rfl, rfl, by decide +kernel, rfl, by decide +kernel, by decide +kernel⟩
def n_law_tasks : List Str := ["_law_pool_here", "_law_path", "_law_made", "_law_pairs", "_law_k", "_law_child", "_law_other", "_law_busy", "_law_pair", "_law_task"]
abbrev g_law_tasks (K : PySem.W.Frag) (cl : Cl) : Gam := { N := n_law_tasks, sc := defScope (top 12), K := K, cl := cl, fs := ["_law_draw"], bs := ["sorted", "range", "len"], xs := [], es := es, hs := [], hot := false, ks := ks, ts := ts, gs := gs, df := df, gn := [], kd := kd, lx := [], lm := false, io := none, fr := false, fi := [], ff := [], oc := oc, ms := [], mkr := [], its := [] }
theorem d_law_tasks (K : PySem.W.Frag) (cl : Cl) : SSs (g_law_tasks K cl) (defBody (top 12)) I_law_tasks.body :=
(sss_cons (ss_set 1 (tup_se sa_nil))
(sss_cons (ss_own 2 (lst_sf (sa_cons (tup_se sa_nil) sa_nil)))
(sss_cons (ss_own 3 (lst_sf sa_nil))
(sss_cons (ss_for (si_rng1 (call_se (sg_pool 0 (sg_cons se_int sg_nil)))) (tg_one 4)
(sss_cons (ss_set 5 (bin_add (se_var 1) (tup_se (sa_cons (bin_add se_int (call_se (sg_pool 0 (sg_cons se_int sg_nil)))) sa_nil))))
(sss_cons (ss_app 3 (tup_se (sa_cons (se_var 1) (sa_cons (se_var 5) sa_nil))))
(sss_cons (ss_app 2 (se_var 5))
(sss_cons (ss_set 1 (se_var 5))
sss_nil)))))
(sss_cons (ss_for (si_rng1 (call_se (sg_pool 0 (sg_cons se_int sg_nil)))) (tg_one 4)
(sss_cons (ss_set 5 (bin_add (oix_se 2 (call_se (sg_pool 0 (sg_cons (olen_se 2) sg_nil)))) (tup_se (sa_cons (bin_add se_int (call_se (sg_pool 0 (sg_cons se_int sg_nil)))) sa_nil))))
(sss_cons (ss_iff (onin_st 2 (se_var 5))
(sss_cons (ss_app 2 (se_var 5))
(sss_cons (ss_iff (cmp_st cEq (call_se (sg_pool 0 (sg_cons se_int sg_nil))) se_int rfl)
(sss_cons (ss_set 6 (bin_add (se_var 5) (tup_se (sa_cons (bin_add se_int (call_se (sg_pool 0 (sg_cons se_int sg_nil)))) sa_nil))))
(sss_cons (ss_app 3 (tup_se (sa_cons (se_var 5) (sa_cons (se_var 6) sa_nil))))
(sss_cons (ss_app 2 (se_var 6))
sss_nil)))
sss_nil)
sss_nil))
sss_nil)
sss_nil)))
(sss_cons (ss_frz [3] (ss_setC 7 (lc_se 8 (si_seq (se_var 3)) sts_nil (ix_se (se_var 8) se_int))))
(sss_cons (ss_frz [2, 3] (ss_ret (lst_se (sa_cons (srt_se (lc_se 9 (si_seq (se_var 2)) (sts_one (cmp_st cNotIn (se_var 9) (se_var 7) rfl)) (se_var 9))) (sa_cons (se_var 3) (sa_cons (se_var 1) sa_nil))))))
sss_nil)))))))
theorem s_law_tasks : FnScope n_law_tasks ["_law_pool_here"] (defScope (top 12)) := ⟨rfl, rfl, rfl, by decide +kernel, rfl, by decide +kernel, by decide +kernel⟩
def n_law_waits : List Str := ["_law_pairs", "_law_waits_here", "_law_pair"]
abbrev g_law_waits (K : PySem.W.Frag) (cl : Cl) : Gam := { N := n_law_waits, sc := defScope (top 13), K := K, cl := cl, fs := [], bs := [], xs := [], es := es, hs := [], hot := false, ks := ks, ts := ts, gs := gs, df := df, gn := [], kd := kd, lx := [], lm := false, io := none, fr := false, fi := [], ff := [], oc := oc, ms := [], mkr := [], its := [] }
theorem d_law_waits (K : PySem.W.Frag) (cl : Cl) : SSs (g_law_waits K cl) (defBody (top 13)) I_law_waits.body :=
(sss_cons (ss_tnew 1)
(sss_cons (ss_for (si_seq (se_var 0)) (tg_one 2)
(sss_cons (ss_tput 1 (ix_se (se_var 2) se_int) (ix_se (se_var 2) se_int))
sss_nil))
(sss_lock 1
(sss_cons (ss_ret (se_var 1))
sss_nil))))
theorem s_law_waits : FnScope n_law_waits ["_law_pairs"] (defScope (top 13)) := ⟨rfl, rfl, rfl, by decide +kernel, rfl, by decide +kernel, by decide +kernel⟩
def n_law_chosen : List Str := ["_law_ready", "_law_woven", "_law_count", "_law_number"]
abbrev g_law_chosen (K : PySem.W.Frag) (cl : Cl) : Gam := { N := n_law_chosen, sc := defScope (top 14), K := K, cl := cl, fs := [], bs := ["int", "len"], xs := [], es := es, hs := [], hot := false, ks := ks, ts := ts, gs := gs, df := df, gn := [], kd := kd, lx := [], lm := false, io := none, fr := false, fi := [], ff := [], oc := oc, ms := [], mkr := [], its := [] }
theorem d_law_chosen (K : PySem.W.Frag) (cl : Cl) : SSs (g_law_chosen K cl) (defBody (top 14)) I_law_chosen.body :=
(sss_cons (ss_set 3 se_int)
(sss_cons (ss_iff (cmp_st cLt (se_var 2) (len_se (se_var 1)) rfl)
(sss_cons (ss_set 3 (ix_se (se_var 1) (se_var 2)))
sss_nil)
sss_nil)
(sss_cons (ss_ret (ix_se (se_var 0) (bin_mod (int_se (se_var 3)) (len_se (se_var 0)))))
sss_nil)))
theorem s_law_chosen : FnScope n_law_chosen ["_law_ready", "_law_woven", "_law_count"] (defScope (top 14)) := ⟨rfl, rfl, rfl, by decide +kernel, rfl, by decide +kernel, by decide +kernel⟩
def n_law_picked : List Str := ["_law_tasks_here", "_law_woven", "_law_world", "_law_count", "_law_ready", "_law_pairs", "_law_end", "_law_given", "_law_waits_here", "_law_due", "_law_k", "_law_pair"]
abbrev g_law_picked (K : PySem.W.Frag) (cl : Cl) : Gam := { N := n_law_picked, sc := defScope (top 15), K := K, cl := cl, fs := ["_law_same", "_law_chosen", "_law_waits"], bs := ["all", "len", "list"], xs := [], es := es, hs := [], hot := false, ks := ks, ts := ts, gs := gs, df := df, gn := [], kd := kd, lx := [], lm := false, io := none, fr := false, fi := [], ff := [], oc := oc, ms := [("WaitTasks.pick", "WaitTasks", "pick"), ("WovenTasks.pick", "WovenTasks", "pick")], mkr := [], its := [] }
theorem d_law_picked (K : PySem.W.Frag) (cl : Cl) : SSs (g_law_picked K cl) (defBody (top 15)) I_law_picked.body :=
(sss_cons (ss_unp (se_var 2) (tg_many (sgs_cons 4 (sgs_cons 5 (sgs_cons 6 sgs_nil)))))
(sss_cons (ss_set 7 (list_se (se_var 4)))
(sss_cons (ss_set 8 (call_se (sg_cons (se_var 5) sg_nil)))
(sss_cons (ss_set 9 (lst_se (sa_cons (call_se (sg_cons (se_var 4) (sg_cons (ix_se (se_var 1) se_int) (sg_cons (se_var 3) sg_nil)))) (sa_cons (call_se (sg_cons (se_var 4) (sg_cons (ix_se (se_var 1) se_int) (sg_cons (se_var 3) sg_nil)))) (sa_cons (se_var 6) sa_nil)))))
(sss_cons (ss_for (si_seq (lst_se (sa_cons se_int (sa_cons se_int (sa_cons se_int (sa_cons se_int (sa_cons se_int sa_nil))))))) (tg_one 10)
(sss_cons (ss_iff (st_not (st_se (call_se (sg_cons (dsp_se (c1 := "WaitTasks") (c2 := "WovenTasks") (SX.se (sx_meth "WaitTasks.pick" "WaitTasks" (ix_se (se_var 0) (se_var 10)) (sg_cons (se_var 3) (sg_cons (se_var 7) (sg_cons (se_var 8) sg_nil))))) (SX.se (sx_meth "WovenTasks.pick" "WovenTasks" (ix_se (se_var 0) (se_var 10)) (sg_cons (se_var 3) (sg_cons (se_var 7) (sg_cons (se_var 8) sg_nil)))))) (sg_cons (ix_se (se_var 9) (se_var 10)) sg_nil)))))
(sss_cons (ss_ret se_bl)
sss_nil)
sss_nil)
sss_nil))
(sss_cons (ss_iff (st_sw (sw_or (cmp_st cNe (se_var 7) (se_var 4) rfl) (sw_or1 (cmp_st cNe (tclen_se 8) (len_se (se_var 5)) rfl))))
(sss_cons (ss_ret se_bl)
sss_nil)
sss_nil)
(sss_cons (ss_ret (all_se (lc_se 11 (si_seq (se_var 5)) sts_nil (cmp_se cEq (tcgt1_se 8 (ix_se (se_var 11) se_int)) (ix_se (se_var 11) se_int) rfl))))
sss_nil)))))))
theorem s_law_picked : FnScope n_law_picked ["_law_tasks_here", "_law_woven", "_law_world", "_law_count"] (defScope (top 15)) := ⟨rfl, rfl, rfl, by decide +kernel, rfl, by decide +kernel, by decide +kernel⟩
def n_WovenTasks_pick : List Str := ["self", "count", "ready", "waits"]
abbrev g_WovenTasks_pick (K : PySem.W.Frag) (cl : Cl) : Gam := { N := n_WovenTasks_pick, sc := defScope (meth 3 1), K := K, cl := cl, fs := ["pick_at"], bs := ["len"], xs := [], es := es, hs := [], hot := false, ks := ks, ts := ts, gs := gs, df := df, gn := [], kd := kd, lx := [], lm := false, io := none, fr := false, fi := [], ff := [], oc := oc, ms := [], mkr := [], its := [] }
theorem x_WovenTasks_pick (K : PySem.W.Frag) (cl : Cl) : SSsX (g_WovenTasks_pick K cl) (defBody (meth 3 1)) I_WovenTasks_pick.body :=
(sssx_cons (ssx_calm (ss_ret (ix_se (se_var 2) (bin_mod (call_se (sg_cons (fld_se "WovenTasks" "weaving" (se_var 0)) (sg_cons (se_var 1) sg_nil))) (len_se (se_var 2))))))
sssx_nil)
theorem s_WovenTasks_pick : FnScope n_WovenTasks_pick ["self", "count", "ready", "waits"] (defScope (meth 3 1)) := ⟨rfl, rfl, rfl, by decide +kernel, rfl, by decide +kernel, by decide +kernel⟩
def n_WaitTasks_pick : List Str := ["self", "count", "ready", "waits", "path"]
abbrev g_WaitTasks_pick (K : PySem.W.Frag) (cl : Cl) : Gam := { N := n_WaitTasks_pick, sc := defScope (meth 4 0), K := K, cl := cl, fs := [], bs := [], xs := [], es := es, hs := [], hot := false, ks := ks, ts := ts, gs := gs, df := df, gn := [], kd := kd, lx := [], lm := false, io := none, fr := false, fi := [], ff := [], oc := oc, ms := [], mkr := [], its := [] }
theorem x_WaitTasks_pick (K : PySem.W.Frag) (cl : Cl) : SSsX (g_WaitTasks_pick K cl) (defBody (meth 4 0)) I_WaitTasks_pick.body :=
(sssx_cons (ssx_calm (ss_set 4 (tup_se sa_nil)))
(sssx_cons (ssx_calm (ss_whr (tcin_st 3 (se_var 4))
(sss_cons (ss_set 4 (tcget_se 3 (se_var 4)))
sss_nil)))
(sssx_cons (ssx_calm (ss_ret (se_var 4)))
sssx_nil)))
theorem s_WaitTasks_pick : FnScope n_WaitTasks_pick ["self", "count", "ready", "waits"] (defScope (meth 4 0)) := ⟨rfl, rfl, rfl, by decide +kernel, rfl, by decide +kernel, by decide +kernel⟩
def n_WovenTasks : List Str := ["self", "weaving"]
abbrev g_WovenTasks (K : PySem.W.Frag) (cl : Cl) : Gam := { N := n_WovenTasks, sc := defScope (meth 3 0), K := K, cl := cl, fs := [], bs := ["tuple"], xs := [], es := es, hs := [], hot := false, ks := ks, ts := ts, gs := gs, df := df, gn := [], kd := kd, lx := [], lm := false, io := none, fr := false, fi := [], ff := [], oc := oc, ms := [], mkr := [], its := [] }
theorem x_WovenTasks (K : PySem.W.Frag) (cl : Cl) : SN (g_WovenTasks K cl) "WovenTasks" (defBody (meth 3 0)) I_WovenTasks.pre I_WovenTasks.fs I_WovenTasks.es :=
(sn_fin (sfn_cons (tuple_se (se_var 1))
sfn_nil))
theorem s_WovenTasks : FnScope n_WovenTasks ["self", "weaving"] (defScope (meth 3 0)) := ⟨rfl, rfl, rfl, by decide +kernel, rfl, by decide +kernel, by decide +kernel⟩
def n_law : List Str := ["_law_script", "_law_pool_here", "_law_woven", "_law_given", "_law_tasks_here", "_law_sizes", "_law_k", "_law_world", "_law_counts", "_law_count"]
abbrev g_law (K : PySem.W.Frag) (cl : Cl) : Gam := { N := n_law, sc := defScope (top 16), K := K, cl := cl, fs := ["_law_same", "_law_draw", "_law_picked", "_law_tasks", "_law_numbers"], bs := ["range", "tuple", "max", "len", "list"], xs := [], es := es, hs := [], hot := false, ks := ks, ts := ts, gs := gs, df := df, gn := [], kd := kd, lx := [], lm := false, io := none, fr := false, fi := [], ff := [], oc := oc, ms := [], mkr := ["WovenTasks"], its := [Xt.nw "WaitTasks"] }
theorem d_law (K : PySem.W.Frag) (cl : Cl) : SSs (g_law K cl) (defBody (top 16)).tail I_law.body :=
(sss_cons (ss_set 2 (lst_se (sa_cons (call_se (sg_pool 1 sg_nil)) (sa_cons (call_se (sg_pool 1 sg_nil)) sa_nil))))
(sss_cons (ss_own 3 (list_sf (ix_se (se_var 2) se_int)))
(sss_cons (ss_set 4 (lst_se (sa_cons (lento_se [3] (SX.se (sx_mk (c := "WovenTasks") (sq_cons (se_var 3) sq_nil)))) (sa_cons (SX.se (sx_mk (c := "WovenTasks") (sq_cons (tuple_se (ix_se (se_var 2) se_int)) sq_nil))) (sa_cons (new0_se "WaitTasks") sa_nil)))))
(sss_cons (ss_app 3 se_int)
(sss_cons (ss_oset 0 3 (bin_add (oix_se 3 se_int) se_int))
(sss_cons (ss_set 5 (lst_se (sa_cons (len_se (ix_se (se_var 2) se_int)) (sa_cons (len_se (ix_se (se_var 2) se_int)) sa_nil))))
(sss_cons (ss_for (si_rng1 se_int) (tg_one 6)
(sss_cons (ss_set 7 (call_se (sg_pool 1 sg_nil)))
(sss_cons (ss_set 8 (lst_se (sa_cons se_int (sa_cons (mx2_se se_int (bin_sub (ix_se (se_var 5) se_int) se_int)) (sa_cons (ix_se (se_var 5) se_int) (sa_cons (mx2_se se_int (bin_sub (ix_se (se_var 5) se_int) se_int)) (sa_cons (ix_se (se_var 5) se_int) (sa_cons (call_se (sg_pool 1 (sg_cons se_int sg_nil))) sa_nil))))))))
(sss_cons (ss_for (si_seq (bin_add (se_var 8) (lst_se (sa_cons (call_se (sg_pool 1 (sg_cons (bin_add (ix_se (se_var 5) se_int) se_int) sg_nil))) sa_nil)))) (tg_one 9)
(sss_cons (ss_iff (st_not (st_se (call_se (sg_cons (se_var 4) (sg_cons (se_var 2) (sg_cons (se_var 7) (sg_cons (se_var 9) sg_nil)))))))
(sss_cons (ss_ret se_bl)
sss_nil)
sss_nil)
sss_nil))
(sss_cons (ss_iff (st_not (st_se (call_se (sg_cons (lst_se (sa_cons (fld_se "WovenTasks" "weaving" (ix_se (se_var 4) se_int)) (sa_cons (fld_se "WovenTasks" "weaving" (ix_se (se_var 4) se_int)) sa_nil))) (sg_cons (lst_se (sa_cons (tuple_se (ix_se (se_var 2) se_int)) (sa_cons (tuple_se (ix_se (se_var 2) se_int)) sa_nil))) sg_nil)))))
(sss_cons (ss_ret se_bl)
sss_nil)
sss_nil)
sss_nil)))))
(sss_cons (ss_ret se_bl)
sss_nil))))))))
theorem s_law : FnScope n_law ["_law_script"] (defScope (top 16)) := ⟨rfl, rfl, rfl, by decide +kernel, rfl, by decide +kernel, by decide +kernel⟩
end K24

set_option Elab.async false
set_option linter.all false
set_option maxRecDepth 100000
set_option maxHeartbeats 4000000
namespace K24
open PySem Ip
def tb : Nat → Cl
  | 0 => noCl
  | n + 1 => fun f as st =>
    if f = "pick_at" then runI 2 (tb n) I_pick_at as st else
    if f = "_law_mixed" then runI 3 (tb n) I_law_mixed as st else
    if f = "_law_draw" then runI 2 (tb n) I_law_draw as st else
    if f = "_law_is_int" then runI 1 (tb n) I_law_is_int as st else
    if f = "_law_same" then runI 2 (tb n) I_law_same as st else
    if f = "_law_numbers" then runI 1 (tb n) I_law_numbers as st else
    if f = "_law_tasks" then runI 1 (tb n) I_law_tasks as st else
    if f = "_law_waits" then runI 1 (tb n) I_law_waits as st else
    if f = "_law_chosen" then runI 3 (tb n) I_law_chosen as st else
    if f = "_law_picked" then runI 4 (tb n) I_law_picked as st else
    if f = "WovenTasks.pick" then runM "WovenTasks" "pick" ["weaving"] 4 (tb n) I_WovenTasks_pick as st else
    if f = bang "WovenTasks.pick" then runMX "WovenTasks" "pick" ["weaving"] 4 (tb n) I_WovenTasks_pick as st else
    if f = "WaitTasks.pick" then runM "WaitTasks" "pick" [] 4 (tb n) I_WaitTasks_pick as st else
    if f = bang "WaitTasks.pick" then runMX "WaitTasks" "pick" [] 4 (tb n) I_WaitTasks_pick as st else
    if f = "WovenTasks" then runP "WovenTasks" 1 (tb n) I_WovenTasks as st else
    if f = bang "WovenTasks" then runPX 1 (tb n) I_WovenTasks as st else
    none
theorem tb_pick_at (n : Nat) (as : List (Option PyData)) (st : Pl) : tb (n + 1) "pick_at" as st = runI 2 (tb n) I_pick_at as st := by rfl
theorem tb_law_mixed (n : Nat) (as : List (Option PyData)) (st : Pl) : tb (n + 1) "_law_mixed" as st = runI 3 (tb n) I_law_mixed as st := by rfl
theorem tb_law_draw (n : Nat) (as : List (Option PyData)) (st : Pl) : tb (n + 1) "_law_draw" as st = runI 2 (tb n) I_law_draw as st := by rfl
theorem tb_law_is_int (n : Nat) (as : List (Option PyData)) (st : Pl) : tb (n + 1) "_law_is_int" as st = runI 1 (tb n) I_law_is_int as st := by rfl
theorem tb_law_same (n : Nat) (as : List (Option PyData)) (st : Pl) : tb (n + 1) "_law_same" as st = runI 2 (tb n) I_law_same as st := by rfl
theorem tb_law_numbers (n : Nat) (as : List (Option PyData)) (st : Pl) : tb (n + 1) "_law_numbers" as st = runI 1 (tb n) I_law_numbers as st := by rfl
theorem tb_law_tasks (n : Nat) (as : List (Option PyData)) (st : Pl) : tb (n + 1) "_law_tasks" as st = runI 1 (tb n) I_law_tasks as st := by rfl
theorem tb_law_waits (n : Nat) (as : List (Option PyData)) (st : Pl) : tb (n + 1) "_law_waits" as st = runI 1 (tb n) I_law_waits as st := by rfl
theorem tb_law_chosen (n : Nat) (as : List (Option PyData)) (st : Pl) : tb (n + 1) "_law_chosen" as st = runI 3 (tb n) I_law_chosen as st := by rfl
theorem tb_law_picked (n : Nat) (as : List (Option PyData)) (st : Pl) : tb (n + 1) "_law_picked" as st = runI 4 (tb n) I_law_picked as st := by rfl
theorem tb_WovenTasks_pick (n : Nat) (as : List (Option PyData)) (st : Pl) : tb (n + 1) "WovenTasks.pick" as st = runM "WovenTasks" "pick" ["weaving"] 4 (tb n) I_WovenTasks_pick as st := by rfl
theorem tbx_WovenTasks_pick (n : Nat) (as : List (Option PyData)) (st : Pl) : tb (n + 1) (bang "WovenTasks.pick") as st = runMX "WovenTasks" "pick" ["weaving"] 4 (tb n) I_WovenTasks_pick as st := by rfl
theorem tb_WaitTasks_pick (n : Nat) (as : List (Option PyData)) (st : Pl) : tb (n + 1) "WaitTasks.pick" as st = runM "WaitTasks" "pick" [] 4 (tb n) I_WaitTasks_pick as st := by rfl
theorem tbx_WaitTasks_pick (n : Nat) (as : List (Option PyData)) (st : Pl) : tb (n + 1) (bang "WaitTasks.pick") as st = runMX "WaitTasks" "pick" [] 4 (tb n) I_WaitTasks_pick as st := by rfl
theorem tb_WovenTasks (n : Nat) (as : List (Option PyData)) (st : Pl) : tb (n + 1) "WovenTasks" as st = runP "WovenTasks" 1 (tb n) I_WovenTasks as st := by rfl
theorem tbx_WovenTasks (n : Nat) (as : List (Option PyData)) (st : Pl) : tb (n + 1) (bang "WovenTasks") as st = runPX 1 (tb n) I_WovenTasks as st := by rfl
end K24

set_option Elab.async false
set_option linter.all false
set_option maxRecDepth 100000
set_option maxHeartbeats 4000000
namespace K24
open PySem Ip L2 Cm
theorem m10 {n : Nat} (h : n ≤ 1000) : n ≤ most := Nat.le_trans h (by decide)
theorem sq_nx {cl : Cl} {s : IS} {r : ISs} {env e1 : List Sl} {st st1 : Pl} {o : Option Out} (h : evS cl s env st = some (.nx e1 st1)) (h2 : evSs cl r e1 st1 = o) : evSs cl (.cons s r) env st = o := by
  rw [q_evSs_cons, h]
  exact h2
theorem sq_rt {cl : Cl} {s : IS} {r : ISs} {env : List Sl} {st st1 : Pl} {d : D} (h : evS cl s env st = some (.rt d st1)) : evSs cl (.cons s r) env st = some (.rt d st1) := by
  rw [q_evSs_cons, h]
theorem sq_iff {cl : Cl} {c : IE} {a r : ISs} {env : List Sl} {st st1 : Pl} {o : Option Out} (h : ev cl c env st = some (.bool false, st1)) (h2 : evSs cl r env st1 = o) : evSs cl (.cons (.iff c a .nil) r) env st = o := by
  refine sq_nx (e1 := env) (st1 := st1) ?_ h2
  rw [q_evS_iff, h]
  rfl
theorem set_run {cl : Cl} {X : IE} {env : List Sl} {st st1 : Pl} {i : Nat} {d : D} (e : ev cl X env st = some (d, st1)) : evS cl (.set i X) env st = some (.nx (env.set i (.im d)) st1) := by
  rw [q_evS_set, e]
theorem ret_run {cl : Cl} {X : IE} {env : List Sl} {st st1 : Pl} {d : D} (e : ev cl X env st = some (d, st1)) : evS cl (.ret X) env st = some (.rt d st1) := by
  rw [q_evS_ret, e]
theorem run_of {n : Nat} {cl : Cl} {I : IF} {as : List (Option D)} {st st' : Pl} {d : D} {env : List Sl} (hl : as.length = n) (he : as.map slOf ++ List.replicate (I.n - as.length) .no = env) (h : evSs cl I.body env st = some (.rt d st')) : runI n cl I as st = some (d, st') := by
  unfold runI runF
  rw [if_pos hl, he, h]
theorem lc_flt {f : D → Pl → Option (Option D × Pl)} {p : D → Bool} {st : Pl} : ∀ {xs : List D}, (∀ d ∈ xs, f d st = some (if p d = true then some d else none, st)) → lcG f xs st = some (xs.filter p, st)
  | [], _ => rfl
  | d :: r, h => by
    have e1 := h d List.mem_cons_self
    have e2 := lc_flt (p := p) (st := st) fun x hx => h x (List.mem_cons_of_mem _ hx)
    unfold lcG
    cases e : p d with
    | false =>
      rw [e] at e1
      rw [e1]
      simp only [Bool.false_eq_true, if_false]
      rw [e2]
      simp [e]
    | true =>
      rw [e] at e1
      rw [e1]
      simp only [if_true]
      rw [e2]
      simp [e]
theorem flt_ev {cl : Cl} {it : IT} {env : List Sl} {st : Pl} {xs : List D} {c : IE} {j : Nat} {p : D → Bool} (hit : ei cl it env st = some (xs, st)) (hl : xs.length ≤ most) (hj : j < env.length) (hb : ∀ d ∈ xs, ev cl c (env.set j (.im d)) st = some (.bool (p d), st)) : ev cl (.lc j it (.cons c .nil) (.var j)) env st = some (.list (xs.filter p), st) := by
  rw [q_ev_lc, hit]
  simp only
  rw [if_pos hl]
  have z : lcG (lb cl j (.cons c .nil) (.var j) env) xs st = some (xs.filter p, st) := lc_flt fun d hd => by
    rw [lb_eq]
    cases e : p d <;> simp [hb d hd, e, hj]
  have z2 := z
  simp only [z2]
theorem lc_map {f : D → Pl → Option (Option D × Pl)} {g : D → D} {st : Pl} : ∀ {xs : List D}, (∀ d ∈ xs, f d st = some (some (g d), st)) → lcG f xs st = some (xs.map g, st)
  | [], _ => rfl
  | d :: r, h => by
    unfold lcG
    rw [h d List.mem_cons_self]
    simp only
    rw [lc_map fun x hx => h x (List.mem_cons_of_mem _ hx)]
    rfl
theorem lc_map' {cl : Cl} {it : IT} {env : List Sl} {st : Pl} {xs : List D} {e : IE} {j : Nat} {g : D → D} (hit : ei cl it env st = some (xs, st)) (hl : xs.length ≤ most) (hb : ∀ d ∈ xs, ev cl e (env.set j (.im d)) st = some (g d, st)) : ev cl (.lc j it .nil e) env st = some (.list (xs.map g), st) := by
  rw [q_ev_lc, hit]
  simp only
  rw [if_pos hl]
  have z : lcG (lb cl j .nil e env) xs st = some (xs.map g, st) := lc_map fun d hd => by
    rw [lb_eq]
    simp [hb d hd]
  have z2 := z
  simp only [z2]
theorem bools_map (f : D → Bool) : ∀ l : List D, boolsD (l.map fun d => PyData.bool (f d)) = some (l.map f)
  | [] => rfl
  | d :: r => by
    rw [List.map_cons, List.map_cons]
    show (boolsD (r.map fun d => PyData.bool (f d))).map (fun bs => f d :: bs) = _
    rw [bools_map f r]
    rfl
theorem all_ev {cl : Cl} {it : IT} {env : List Sl} {st : Pl} {xs : List D} {e : IE} {j : Nat} {p : D → Bool} (hit : ei cl it env st = some (xs, st)) (hl : xs.length ≤ most) (hb : ∀ d ∈ xs, ev cl e (env.set j (.im d)) st = some (.bool (p d), st)) : ev cl (.bi .all (.cons (.lc j it .nil e) .nil)) env st = some (.bool (xs.all p), st) := by
  have z := lc_map' (g := fun d => .bool (p d)) hit hl hb
  simp [z, biD, bools_map, List.all_map, Function.comp_def]
abbrev Pth := List Int
def pD (p : Pth) : D := .tuple (p.map PyData.int)
def psD (ps : List Pth) : List D := ps.map pD
def qD (q : Pth × Pth) : D := .tuple [pD q.1, pD q.2]
def qsD (qs : List (Pth × Pth)) : List D := qs.map qD
theorem eqvI : ∀ a b : Pth, PyData.eqvAll (a.map PyData.int) (b.map PyData.int) = decide (a = b)
  | [], [] => by simp [PyData.eqvAll]
  | [], _ :: _ => by simp [PyData.eqvAll]
  | _ :: _, [] => by simp [PyData.eqvAll]
  | x :: a, y :: b => by
    have ih := eqvI a b
    have e : PyData.eqv (.int x) (.int y) = decide (x = y) := by unfold PyData.eqv; rfl
    rw [List.map_cons, List.map_cons]
    unfold PyData.eqvAll
    rw [ih, e]
    by_cases h : x = y <;> by_cases k : a = b <;> simp [h, k]
theorem eqvP (a b : Pth) : PyData.eqv (pD a) (pD b) = decide (a = b) := by
  unfold pD
  have : PyData.eqv (.tuple (a.map PyData.int)) (.tuple (b.map PyData.int)) = PyData.eqvAll (a.map PyData.int) (b.map PyData.int) := by
    unfold PyData.eqv
    rfl
  rw [this, eqvI]
theorem memP (a : Pth) (ps : List Pth) : memD (pD a) (psD ps) = decide (a ∈ ps) := by
  unfold memD psD
  rw [List.any_map]
  rw [Bool.eq_iff_iff]
  rw [List.any_eq_true, decide_eq_true_iff]
  constructor
  · rintro ⟨b, hb, h⟩
    have h : PyData.eqv (pD b) (pD a) = true := h
    rw [eqvP, decide_eq_true_iff] at h
    exact h ▸ hb
  · intro h
    exact ⟨a, h, by
      show PyData.eqv (pD a) (pD a) = true
      rw [eqvP, decide_eq_true rfl]⟩
theorem layI : ∀ a : Pth, PyData.canLayAll0 (a.map PyData.int) = true
  | [] => rfl
  | x :: a => by
    rw [List.map_cons]
    unfold PyData.canLayAll0
    rw [layI a]
    rfl
theorem depI : ∀ a : Pth, PyData.depthAll (a.map PyData.int) ≤ 1
  | [] => by
    rw [List.map_nil]
    unfold PyData.depthAll
    omega
  | x :: a => by
    rw [List.map_cons]
    have h := depI a
    have e : (PyData.int x).depth = 0 := by unfold PyData.depth; rfl
    unfold PyData.depthAll
    rw [e]
    omega
theorem depth_int (x : Int) : (PyData.int x).depth = 0 := by unfold PyData.depth; rfl
theorem layP (a : Pth) : PyData.canLay0 (pD a) = true := by
  show PyData.canLayAll0 (a.map PyData.int) = true
  exact layI a
theorem depP (a : Pth) : (pD a).depth ≤ 2 := by
  have := depI a
  unfold pD PyData.depth
  omega
theorem layPs : ∀ ps : List Pth, PyData.canLayAll0 (psD ps) = true
  | [] => rfl
  | a :: ps => by
    show PyData.canLayAll0 (pD a :: psD ps) = true
    unfold PyData.canLayAll0
    rw [layP, layPs ps]
    rfl
theorem depPs : ∀ ps : List Pth, PyData.depthAll (psD ps) ≤ 2
  | [] => by
    show PyData.depthAll [] ≤ 2
    unfold PyData.depthAll
    omega
  | a :: ps => by
    show PyData.depthAll (pD a :: psD ps) ≤ 2
    have h1 := depP a
    have h2 := depPs ps
    unfold PyData.depthAll
    omega
theorem sh_of {d : D} (h : PyData.canLay0 d = true) (k : d.depth ≤ 64) : SeqAt.shaped d = true := by
  show (PyData.canLay0 d && decide (PyData.depth d ≤ 64)) = true
  rw [h, decide_eq_true k]
  rfl
theorem shP (a : Pth) : SeqAt.shaped (pD a) = true := sh_of (layP a) (Nat.le_trans (depP a) (by decide))
theorem shPs (ps : List Pth) : SeqAt.shaped (.list (psD ps)) = true := sh_of (show PyData.canLayAll0 (psD ps) = true from layPs ps) (by
  have := depPs ps
  unfold PyData.depth
  omega)
theorem notflat (a : Pth) : flatD (pD a) = false := rfl
theorem in_p (a : Pth) (ps : List Pth) : inD (pD a) (.list (psD ps)) = some (decide (a ∈ ps)) := by
  show (if flatD (pD a) = true ∧ (psD ps).all flatD = true then some (memD (pD a) (psD ps)) else if SeqAt.shaped (pD a) = true ∧ SeqAt.shaped (.list (psD ps)) = true then some (memD (pD a) (psD ps)) else none) = _
  rw [if_neg (fun h => by rw [notflat] at h; cases h.1), if_pos ⟨shP a, shPs ps⟩, memP]
theorem eq_p (a b : Pth) : eqD (pD a) (pD b) = some (decide (a = b)) := by
  show (if SeqAt.shaped (pD a) = true ∧ SeqAt.shaped (pD b) = true then some (PyData.eqv (pD a) (pD b)) else none) = _
  rw [if_pos ⟨shP a, shP b⟩, eqvP]
theorem eqvPs : ∀ a b : List Pth, PyData.eqvAll (psD a) (psD b) = decide (a = b)
  | [], [] => by simp [PyData.eqvAll, psD]
  | [], _ :: _ => by simp [PyData.eqvAll, psD]
  | _ :: _, [] => by simp [PyData.eqvAll, psD]
  | x :: a, y :: b => by
    have ih := eqvPs a b
    show PyData.eqvAll (pD x :: psD a) (pD y :: psD b) = _
    unfold PyData.eqvAll
    rw [ih, eqvP]
    by_cases h : x = y <;> by_cases k : a = b <;> simp [h, k]
theorem eq_ps (a b : List Pth) : eqD (.list (psD a)) (.list (psD b)) = some (decide (a = b)) := by
  have e : PyData.eqv (.list (psD a)) (.list (psD b)) = PyData.eqvAll (psD a) (psD b) := by
    unfold PyData.eqv
    rfl
  show (if SeqAt.shaped (.list (psD a)) = true ∧ SeqAt.shaped (.list (psD b)) = true then some (PyData.eqv (.list (psD a)) (.list (psD b))) else none) = _
  rw [if_pos ⟨shPs a, shPs b⟩, e, eqvPs]
end K24

set_option Elab.async false
set_option linter.all false
set_option maxRecDepth 100000
set_option maxHeartbeats 4000000
namespace K24
open PySem Ip L2 Cm
def isD (ns : List Int) : List D := ns.map PyData.int
def PNumbers (cl : Cl) : Prop := ∀ {C : List (List D)} (st : Pl), Pok C st → ∃ ns st', cl "_law_numbers" [none] st = some (.list (isD ns), st') ∧ ns.length ≤ 60 ∧ Pok C st'
def nbB : ISs := .cons (.set 4 (.call "_law_draw" (.pool 0 (.cons (.ix (.lst (.cons (.cst (.int 2)) (.cons (.cst (.int 9)) (.cons (.cst (.int 1000)) (.cons (.bin .pow (.cst (.int 10)) (.cst (.int 6))) .nil))))) (.call "_law_draw" (.pool 0 (.cons (.cst (.int 4)) .nil)))) .nil))))
  (.cons (.iff (.cmp .eq (.call "_law_draw" (.pool 0 (.cons (.cst (.int 8)) .nil))) (.cst (.int 7))) (.cons (.set 4 (.bin .add (.bin .mul (.bin .add (.var 4) (.cst (.int 1))) (.bin .pow (.cst (.int 10)) (.cst (.int 40)))) (.call "_law_draw" (.pool 0 (.cons (.bin .pow (.cst (.int 10)) (.cst (.int 6))) .nil)))))
  .nil) .nil)
  (.cons (.app 2 (.var 4))
  .nil))
theorem nb_eq : I_law_numbers = ⟨5, .cons (.set 1 (.ix (.lst (.cons (.call "_law_draw" (.pool 0 (.cons (.cst (.int 4)) .nil))) (.cons (.call "_law_draw" (.pool 0 (.cons (.cst (.int 12)) .nil))) (.cons (.call "_law_draw" (.pool 0 (.cons (.cst (.int 61)) .nil))) .nil)))) (.call "_law_draw" (.pool 0 (.cons (.cst (.int 3)) .nil)))))
  (.cons (.own 2 (.lst .nil)) (.cons (.forr (.one 3) (.rng1 (.var 1)) nbB) (.cons (.frz [2] (.ret (.var 2))) .nil)))⟩ := rfl
theorem lim_at {i : Int} (h0 : 0 ≤ i) (h1 : i < 4) : ∃ l : Int, ixD (.list [.int 2, .int 9, .int 1000, .int 1000000]) (.int i) = some (.int l) ∧ 0 < l ∧ l ≤ 1000000 := by
  have : i = 0 ∨ i = 1 ∨ i = 2 ∨ i = 3 := by omega
  rcases this with rfl | rfl | rfl | rfl
  · exact ⟨2, rfl, by decide, by decide⟩
  · exact ⟨9, rfl, by decide, by decide⟩
  · exact ⟨1000, rfl, by decide, by decide⟩
  · exact ⟨1000000, rfl, by decide, by decide⟩
theorem pick3 {a b c k : Int} (h0 : 0 ≤ k) (h1 : k < 3) : ∃ l : Int, ixD (.list [.int a, .int b, .int c]) (.int k) = some (.int l) ∧ (l = a ∨ l = b ∨ l = c) := by
  have : k = 0 ∨ k = 1 ∨ k = 2 := by omega
  rcases this with rfl | rfl | rfl
  · exact ⟨a, rfl, .inl rfl⟩
  · exact ⟨b, rfl, .inr (.inl rfl)⟩
  · exact ⟨c, rfl, .inr (.inr rfl)⟩
theorem isD_snoc (ns : List Int) (n : Int) : isD ns ++ [.int n] = isD (ns ++ [n]) := by simp [isD]
theorem nb_step {cl : Cl} (hd : DrawOk cl) {C : List (List D)} (i : Nat) (ns : List Int) (hl : ns.length ≤ 200) (x1 x3 x4 : Sl) (st : Pl) (h : Pok C st) : ∃ n y4 st', fb cl (.one 3) nbB (.int i) [.pl, x1, .ow (isD ns), x3, x4] st = some (.nx [.pl, x1, .ow (isD (ns ++ [n])), .im (.int i), y4] st') ∧ Pok C st' := by
  obtain ⟨a, s1, e1, a0, a1, p1⟩ := hd 4 st h (by decide) (by decide)
  obtain ⟨l, q1, l0, l1⟩ := lim_at a0 a1
  obtain ⟨b, s2, e2, b0, b1, p2⟩ := hd l s1 p1 l0 (by omega)
  obtain ⟨c, s3, e3, c0, c1, p3⟩ := hd 8 s2 p2 (by decide) (by decide)
  have m4 : (4 : Nat) ≤ most := by decide
  have lt : (isD ns).length < most := by
    simp only [isD, List.length_map]
    exact Nat.lt_of_lt_of_le (by omega : ns.length < 1000) (by decide)
  have p6 : binD .pow (.int 10) (.int 6) = some (.int 1000000) := rfl
  have p40 : binD .pow (.int 10) (.int 40) = some (.int (10 ^ 40)) := by
    show (if (0 : Int) ≤ 40 ∧ (40 : Int) ≤ 64 ∧ (10 : Int).natAbs < 2 ^ 64 then some (PyData.int ((10 : Int) ^ (40 : Int).toNat)) else none) = _
    rw [if_pos (by decide)]
    rfl
  have lst : ∀ env s, ev cl (.lst (.cons (.cst (.int 2)) (.cons (.cst (.int 9)) (.cons (.cst (.int 1000)) (.cons (.bin .pow (.cst (.int 10)) (.cst (.int 6))) .nil))))) env s = some (.list [.int 2, .int 9, .int 1000, .int 1000000], s) := fun env s => by
    simp [Cst.d, p6, m4]
  by_cases hc : c = 7
  · subst hc
    obtain ⟨d, s4, e4, d0, d1, p4⟩ := hd 1000000 s3 p3 (by decide) (by decide)
    have mu : binD .mul (.int (b + 1)) (.int (10 ^ 40)) = some (.int ((b + 1) * 10 ^ 40)) := by
      show (if (b + 1).natAbs < 2 ^ 64 ∨ (10 ^ 40 : Int).natAbs < 2 ^ 64 then some (PyData.int ((b + 1) * 10 ^ 40)) else none) = _
      rw [if_pos (Or.inl (by omega))]
    have c7 : cmpD .eq (.int 7) (.int 7) = some true := rfl
    have a1' : binD .add (.int b) (.int 1) = some (.int (b + 1)) := rfl
    have a2 : binD .add (.int ((b + 1) * 10 ^ 40)) (.int d) = some (.int ((b + 1) * 10 ^ 40 + d)) := rfl
    refine ⟨(b + 1) * 10 ^ 40 + d, .im (.int ((b + 1) * 10 ^ 40 + d)), s4, ?_, p4⟩
    rw [← isD_snoc]
    generalize (b + 1) * 10 ^ 40 + d = N at *
    generalize (b + 1) * 10 ^ 40 = N1 at *
    generalize (10 : Int) ^ 40 = T at *
    generalize isD ns = L at *
    unfold nbB
    simp [fb_eq, sgD, Cst.d, lst, e1, q1, e2, e3, e4, p6, p40, mu, a1', a2, lt, c7]
  · have cn : cmpD .eq (.int c) (.int 7) = some false := by
      show some (decide (c = 7)) = _
      rw [decide_eq_false hc]
    refine ⟨b, .im (.int b), s3, ?_, p3⟩
    rw [← isD_snoc]
    generalize isD ns = L at *
    unfold nbB
    simp [fb_eq, sgD, Cst.d, lst, e1, q1, e2, e3, cn, lt]
theorem numbers_run {cl : Cl} (hd : DrawOk cl) {C : List (List D)} (st : Pl) (h : Pok C st) : ∃ ns st', runI 1 cl I_law_numbers [none] st = some (.list (isD ns), st') ∧ ns.length ≤ 60 ∧ Pok C st' := by
  obtain ⟨a, s1, e1, a0, a1, p1⟩ := hd 4 st h (by decide) (by decide)
  obtain ⟨b, s2, e2, b0, b1, p2⟩ := hd 12 s1 p1 (by decide) (by decide)
  obtain ⟨c, s3, e3, c0, c1, p3⟩ := hd 61 s2 p2 (by decide) (by decide)
  obtain ⟨k, s4, e4, k0, k1, p4⟩ := hd 3 s3 p3 (by decide) (by decide)
  obtain ⟨l, q, ql⟩ := pick3 (a := a) (b := b) (c := c) k0 k1
  have l0 : 0 ≤ l := by rcases ql with rfl | rfl | rfl <;> omega
  have l1 : l ≤ 60 := by rcases ql with rfl | rfl | rfl <;> omega
  have hrg := rngD_nat l0 (by omega)
  have m3 : (3 : Nat) ≤ most := by decide
  have m0 : (0 : Nat) ≤ most := by decide
  obtain ⟨env', st', e, ns, x3, x4, rfl, hn, hp⟩ := forG_nx (f := fb cl (.one 3) nbB) (fun i env s => ∃ ns x3 x4, env = [.pl, .im (.int l), .ow (isD ns), x3, x4] ∧ ns.length = i ∧ Pok C s) ((List.range l.toNat).map fun (k : Nat) => PyData.int (k : Int)) [.pl, .im (.int l), .ow (isD []), .no, .no] s4 ⟨[], _, _, rfl, rfl, p4⟩
    (fun i d env s hi ⟨ns, x3, x4, q, hn, hp⟩ => by
      subst q
      obtain ⟨hi2, rfl⟩ := rng_at hi
      obtain ⟨n, y4, s5, e5, p5⟩ := nb_step hd i ns (by omega) (.im (.int l)) x3 x4 s hp
      exact ⟨_, s5, e5, _, _, _, rfl, by rw [List.length_append, hn]; rfl, p5⟩)
  simp only [List.length_map, List.length_range] at hn
  refine ⟨ns, st', ?_, by omega, hp⟩
  rw [nb_eq]
  refine run_of (env := [.pl, .no, .no, .no, .no]) rfl rfl ?_
  refine sq_nx (e1 := [.pl, .im (.int l), .no, .no, .no]) (st1 := s4) (set_run (by simp [Cst.d, e1, e2, e3, e4, m3, q])) ?_
  refine sq_nx (e1 := [.pl, .im (.int l), .ow (isD []), .no, .no]) (st1 := s4) (by simp [m0, isD]) ?_
  have f1 : evS cl (.forr (.one 3) (.rng1 (.var 1)) nbB) [.pl, .im (.int l), .ow (isD []), .no, .no] s4 = some (.nx [.pl, .im (.int l), .ow (isD ns), x3, x4] st') := by
    rw [q_evS_forr]
    have : ei cl (.rng1 (.var 1)) [.pl, .im (.int l), .ow (isD []), .no, .no] s4 = some ((List.range l.toNat).map fun (k : Nat) => PyData.int (k : Int), s4) := by simp [hrg]
    rw [this]
    exact e
  refine sq_nx f1 (sq_rt ?_)
  simp [frzE, frzS]
end K24

set_option Elab.async false
set_option linter.all false
set_option maxRecDepth 100000
set_option maxHeartbeats 4000000
namespace K24
open PySem Ip L2 Cm
inductive Wk (Q : List (Pth × Pth)) (e : Pth) : Nat → Pth → Prop
  | z : Wk Q e 0 e
  | s {a b : Pth} {n : Nat} : (a, b) ∈ Q → Wk Q e n b → Wk Q e (n + 1) a
theorem Wk.more {Q Q' : List (Pth × Pth)} {e a : Pth} {n : Nat} (h : Wk Q e n a) (s : ∀ q ∈ Q, q ∈ Q') : Wk Q' e n a := by
  induction h with
  | z => exact .z
  | s h1 _ ih => exact .s (s _ h1) ih
theorem Wk.on {Q Q' : List (Pth × Pth)} {e e' a : Pth} {n : Nat} (h : Wk Q e n a) (s : ∀ q ∈ Q, q ∈ Q') (k : (e, e') ∈ Q') : Wk Q' e' (n + 1) a := by
  induction h with
  | z => exact .s k .z
  | s h1 _ ih => exact .s (s _ h1) ih
structure TI (B : Nat) (e : Pth) (M : List Pth) (Q : List (Pth × Pth)) : Prop where
  nd : (Q.map Prod.fst).Nodup
  key : ∀ q ∈ Q, q.1 ∈ M
  em : e ∈ M
  en : e ∉ Q.map Prod.fst
  wk : ∃ n, n ≤ 10 ∧ Wk Q e n []
  hd : ∃ T, M = [] :: T ∧ ∀ t ∈ T, t ≠ []
  ln : ∀ m ∈ M, m.length ≤ B
structure TC (i : Nat) (e : Pth) (M : List Pth) (Q : List (Pth × Pth)) : Prop where
  ti : TI i e M Q
  el : e.length = i
  wi : Wk Q e i []
  ml : M.length = i + 1
  ql : Q.length = i
theorem tc0 : TC 0 [] [[]] [] where
  ti := {
    nd := List.nodup_nil
    key := fun q h => by cases h
    em := List.mem_singleton.mpr rfl
    en := fun h => by cases h
    wk := ⟨0, by decide, .z⟩
    hd := ⟨[], rfl, fun t h => by cases h⟩
    ln := fun m h => by
      rw [List.mem_singleton.mp h]
      exact Nat.le_refl _ }
  el := rfl
  wi := .z
  ml := rfl
  ql := rfl
theorem mem_snoc {α : Type} {l : List α} {a x : α} : x ∈ l ++ [a] ↔ x ∈ l ∨ x = a := by simp
theorem nd_snoc {Q : List (Pth × Pth)} {c o : Pth} (h : (Q.map Prod.fst).Nodup) (k : c ∉ Q.map Prod.fst) : ((Q ++ [(c, o)]).map Prod.fst).Nodup := by
  rw [List.map_append, List.nodup_append]
  refine ⟨h, by simp, fun a ha b hb e => ?_⟩
  rw [List.map_cons, List.map_nil, List.mem_singleton] at hb
  subst hb
  exact k (e ▸ ha)
theorem TC.step {i : Nat} {e : Pth} {M : List Pth} {Q : List (Pth × Pth)} (h : TC i e M Q) (hi : i < 10) (x : Int) : TC (i + 1) (e ++ [x]) (M ++ [e ++ [x]]) (Q ++ [(e, e ++ [x])]) := by
  have el : (e ++ [x]).length = i + 1 := by rw [List.length_append, h.el]; rfl
  have nm : e ++ [x] ∉ M := fun hm => by
    have := h.ti.ln _ hm
    omega
  have nk : e ++ [x] ∉ (Q ++ [(e, e ++ [x])]).map Prod.fst := fun hm => by
    obtain ⟨q, hq, eq⟩ := List.mem_map.mp hm
    rcases mem_snoc.mp hq with hq | rfl
    · exact nm (eq ▸ h.ti.key q hq)
    · have := congrArg List.length (show e = e ++ [x] from eq)
      rw [el, h.el] at this
      omega
  have w := h.wi.on (Q' := Q ++ [(e, e ++ [x])]) (fun q hq => mem_snoc.mpr (.inl hq)) (mem_snoc.mpr (.inr rfl))
  exact {
    ti := {
      nd := nd_snoc h.ti.nd h.ti.en
      key := fun q hq => by
        rcases mem_snoc.mp hq with hq | rfl
        · exact mem_snoc.mpr (.inl (h.ti.key q hq))
        · exact mem_snoc.mpr (.inl h.ti.em)
      em := mem_snoc.mpr (.inr rfl)
      en := nk
      wk := ⟨i + 1, by omega, w⟩
      hd := by
        obtain ⟨T, rfl, ht⟩ := h.ti.hd
        refine ⟨T ++ [e ++ [x]], rfl, fun t hm => ?_⟩
        rcases mem_snoc.mp hm with hm | rfl
        · exact ht t hm
        · simp
      ln := fun m hm => by
        rcases mem_snoc.mp hm with hm | rfl
        · exact Nat.le_succ_of_le (h.ti.ln m hm)
        · exact Nat.le_of_eq el }
    el := el
    wi := w
    ml := by rw [List.length_append, h.ml]; rfl
    ql := by rw [List.length_append, h.ql]; rfl }
theorem TI.more {B : Nat} {e : Pth} {M : List Pth} {Q : List (Pth × Pth)} (h : TI B e M Q) {c : Pth} (cn : c ≠ []) (cl : c.length ≤ B + 1) : TI (B + 2) e (M ++ [c]) Q where
  nd := h.nd
  key := fun q hq => mem_snoc.mpr (.inl (h.key q hq))
  em := mem_snoc.mpr (.inl h.em)
  en := h.en
  wk := h.wk
  hd := by
    obtain ⟨T, rfl, ht⟩ := h.hd
    refine ⟨T ++ [c], rfl, fun t hm => ?_⟩
    rcases mem_snoc.mp hm with hm | rfl
    · exact ht t hm
    · exact cn
  ln := fun m hm => by
    rcases mem_snoc.mp hm with hm | rfl
    · have := h.ln m hm
      omega
    · omega
theorem TI.wait {B : Nat} {e : Pth} {M : List Pth} {Q : List (Pth × Pth)} (h : TI B e M Q) {c o : Pth} (cm : c ∉ M) (cn : c ≠ []) (cl : c.length ≤ B + 1) (on : o ≠ []) (ol : o.length ≤ B + 2) : TI (B + 2) e ((M ++ [c]) ++ [o]) (Q ++ [(c, o)]) where
  nd := nd_snoc h.nd fun hm => by
    obtain ⟨q, hq, eq⟩ := List.mem_map.mp hm
    exact cm (eq ▸ h.key q hq)
  key := fun q hq => by
    rcases mem_snoc.mp hq with hq | rfl
    · exact mem_snoc.mpr (.inl (mem_snoc.mpr (.inl (h.key q hq))))
    · exact mem_snoc.mpr (.inl (mem_snoc.mpr (.inr rfl)))
  em := mem_snoc.mpr (.inl (mem_snoc.mpr (.inl h.em)))
  en := fun hm => by
    obtain ⟨q, hq, eq⟩ := List.mem_map.mp hm
    rcases mem_snoc.mp hq with hq | rfl
    · exact h.en (List.mem_map.mpr ⟨q, hq, eq⟩)
    · exact cm ((show c = e from eq) ▸ h.em)
  wk := by
    obtain ⟨n, hn, w⟩ := h.wk
    exact ⟨n, hn, w.more fun q hq => mem_snoc.mpr (.inl hq)⟩
  hd := by
    obtain ⟨T, rfl, ht⟩ := h.hd
    refine ⟨(T ++ [c]) ++ [o], rfl, fun t hm => ?_⟩
    rcases mem_snoc.mp hm with hm | rfl
    · rcases mem_snoc.mp hm with hm | rfl
      · exact ht t hm
      · exact cn
    · exact on
  ln := fun m hm => by
    rcases mem_snoc.mp hm with hm | rfl
    · rcases mem_snoc.mp hm with hm | rfl
      · have := h.ln m hm
        omega
      · omega
    · exact ol
def iP : D → Int
  | .int n => n
  | _ => 0
def dP : D → Pth
  | .tuple ds => ds.map iP
  | _ => []
theorem dP_pD (a : Pth) : dP (pD a) = a := by
  show (a.map PyData.int).map iP = a
  rw [List.map_map]
  induction a with
  | nil => rfl
  | cons x a ih =>
    rw [List.map_cons, ih]
    rfl
theorem perm_ps {l : List D} {F : List Pth} (h : l.Perm (psD F)) : ∃ R, l = psD R ∧ R.Perm F := by
  refine ⟨l.map dP, ?_, ?_⟩
  · unfold psD
    rw [List.map_map]
    have : ∀ d ∈ l, (pD ∘ dP) d = d := fun d hd => by
      obtain ⟨a, _, rfl⟩ := List.mem_map.mp (h.mem_iff.mp hd)
      show pD (dP (pD a)) = pD a
      rw [dP_pD]
    rw [List.map_congr_left this, List.map_id']
  · have z := h.map dP
    unfold psD at z
    rw [List.map_map] at z
    have : F.map (dP ∘ pD) = F := by
      have : ∀ a ∈ F, (dP ∘ pD) a = a := fun a _ => dP_pD a
      rw [List.map_congr_left this, List.map_id']
    rwa [this] at z
theorem alikeI : ∀ a b : Pth, PySem.W.alikeAll (a.map PyData.int) (b.map PyData.int) = true
  | [], b => by simp [PySem.W.alikeAll]
  | _ :: _, [] => by simp [PySem.W.alikeAll]
  | x :: a, y :: b => by
    have ih := alikeI a b
    simp [PySem.W.alikeAll, PySem.W.alike, ih]
theorem sortOk_ps {F : List Pth} (hl : F.length ≤ 500) (hh : (∀ a ∈ F, a ≠ []) ∨ ∃ T, F = [] :: T) : sortOk (psD F) = true := by
  unfold sortOk
  simp only [Bool.and_eq_true, Bool.or_eq_true, List.all_eq_true, decide_eq_true_eq]
  refine ⟨⟨⟨⟨fun d hd e he => ?_, ?_⟩, ?_⟩, fun d hd => ?_⟩, fun d hd => ?_⟩
  · obtain ⟨a, _, rfl⟩ := List.mem_map.mp hd
    obtain ⟨b, _, rfl⟩ := List.mem_map.mp he
    show PySem.W.alike (.tuple (a.map PyData.int)) (.tuple (b.map PyData.int)) = true
    unfold PySem.W.alike
    exact alikeI a b
  · rcases hh with hh | ⟨T, rfl⟩
    · left
      left
      intro d hd
      obtain ⟨a, ha, rfl⟩ := List.mem_map.mp hd
      cases a with
      | nil => exact absurd rfl (hh _ ha)
      | cons x a => rfl
    · right
      show tup0 (.tuple [] :: psD T) = true
      unfold tup0
      rw [List.all_eq_true]
      intro d hd
      obtain ⟨a, _, rfl⟩ := List.mem_map.mp hd
      rfl
  · unfold psD
    rw [List.length_map]
    exact m10 (by omega)
  · obtain ⟨a, _, rfl⟩ := List.mem_map.mp hd
    exact Nat.le_trans (depP a) (by decide)
  · obtain ⟨a, _, rfl⟩ := List.mem_map.mp hd
    exact noObj_of (layP a)
theorem TI.free_ok {B : Nat} {e : Pth} {M : List Pth} {Q : List (Pth × Pth)} (h : TI B e M Q) (hl : M.length ≤ 500) : sortOk (psD (M.filter fun m => !decide (m ∈ Q.map Prod.fst))) = true ∧ e ∈ M.filter fun m => !decide (m ∈ Q.map Prod.fst) := by
  refine ⟨sortOk_ps (Nat.le_trans (List.length_filter_le _ _) hl) ?_, List.mem_filter.mpr ⟨h.em, by simpa using h.en⟩⟩
  obtain ⟨T, rfl, ht⟩ := h.hd
  by_cases z : ([] : Pth) ∈ Q.map Prod.fst
  · left
    intro a ha
    obtain ⟨h1, h2⟩ := List.mem_filter.mp ha
    intro e0
    subst e0
    simp only [Bool.not_eq_true', decide_eq_false_iff_not] at h2
    exact h2 z
  · right
    rw [List.filter_cons_of_pos (by simpa using z)]
    exact ⟨_, rfl⟩
end K24

set_option Elab.async false
set_option linter.all false
set_option maxRecDepth 100000
set_option maxHeartbeats 4000000
namespace K24
open PySem Ip L2 Cm
theorem psD_snoc (M : List Pth) (a : Pth) : psD M ++ [pD a] = psD (M ++ [a]) := by simp [psD]
theorem qsD_snoc (Q : List (Pth × Pth)) (a b : Pth) : qsD Q ++ [.tuple [pD a, pD b]] = qsD (Q ++ [(a, b)]) := by simp [qsD, qD]
theorem add_p (a : Pth) (x : Int) (h : a.length ≤ 500) : binD .add (pD a) (.tuple [.int x]) = some (pD (a ++ [x])) := by
  show (if (a.map PyData.int).length + 1 ≤ most then some (PyData.tuple (a.map PyData.int ++ [.int x])) else none) = _
  rw [if_pos (m10 (by rw [List.length_map]; omega))]
  simp [pD]
def chB : ISs := .cons (.set 5 (.bin .add (.var 1) (.tup (.cons (.bin .add (.cst (.int 1)) (.call "_law_draw" (.pool 0 (.cons (.cst (.int 12)) .nil)))) .nil))))
  (.cons (.app 3 (.tup (.cons (.var 1) (.cons (.var 5) .nil))))
  (.cons (.app 2 (.var 5))
  (.cons (.set 1 (.var 5))
  .nil)))
def moB : ISs := .cons (.set 5 (.bin .add (.oix 2 (.call "_law_draw" (.pool 0 (.cons (.olen 2) .nil)))) (.tup (.cons (.bin .add (.cst (.int 1)) (.call "_law_draw" (.pool 0 (.cons (.cst (.int 12)) .nil)))) .nil))))
  (.cons (.iff (.oin true 2 (.var 5)) (.cons (.app 2 (.var 5))
  (.cons (.iff (.cmp .eq (.call "_law_draw" (.pool 0 (.cons (.cst (.int 3)) .nil))) (.cst (.int 2))) (.cons (.set 6 (.bin .add (.var 5) (.tup (.cons (.bin .add (.cst (.int 1)) (.call "_law_draw" (.pool 0 (.cons (.cst (.int 3)) .nil)))) .nil))))
  (.cons (.app 3 (.tup (.cons (.var 5) (.cons (.var 6) .nil))))
  (.cons (.app 2 (.var 6))
  .nil))) .nil)
  .nil)) .nil)
  .nil)
theorem ta_eq : I_law_tasks = ⟨10, .cons (.set 1 (.tup .nil))
  (.cons (.own 2 (.lst (.cons (.tup .nil) .nil)))
  (.cons (.own 3 (.lst .nil))
  (.cons (.forr (.one 4) (.rng1 (.call "_law_draw" (.pool 0 (.cons (.cst (.int 7)) .nil)))) chB)
  (.cons (.forr (.one 4) (.rng1 (.call "_law_draw" (.pool 0 (.cons (.cst (.int 8)) .nil)))) moB)
  (.cons (.frz [3] (.set 7 (.lc 8 (.seq (.var 3)) .nil (.ix (.var 8) (.cst (.int 0))))))
  (.cons (.frz [2, 3] (.ret (.lst (.cons (.srt (.lc 9 (.seq (.var 2)) (.cons (.cmp .notin (.var 9) (.var 7)) .nil) (.var 9))) (.cons (.var 3) (.cons (.var 1) .nil))))))
  .nil))))))⟩ := rfl
theorem ch_step {cl : Cl} (hd : DrawOk cl) {C : List (List D)} (i : Nat) (hi : i < 10) (e : Pth) (M : List Pth) (Q : List (Pth × Pth)) (t : TC i e M Q) (x4 x5 x6 x7 x8 x9 : Sl) (st : Pl) (h : Pok C st) :
    ∃ x st', fb cl (.one 4) chB (.int i) [.pl, .im (pD e), .ow (psD M), .ow (qsD Q), x4, x5, x6, x7, x8, x9] st = some (.nx [.pl, .im (pD (e ++ [x])), .ow (psD (M ++ [e ++ [x]])), .ow (qsD (Q ++ [(e, e ++ [x])])), .im (.int i), .im (pD (e ++ [x])), x6, x7, x8, x9] st') ∧ Pok C st' := by
  obtain ⟨a, s1, e1, a0, a1, p1⟩ := hd 12 st h (by decide) (by decide)
  have ad := add_p e (1 + a) (by rw [t.el]; omega)
  have m1 : (1 : Nat) ≤ most := by decide
  have m2 : (2 : Nat) ≤ most := by decide
  have l1 : (psD M).length < most := by
    unfold psD
    rw [List.length_map, t.ml]
    exact Nat.lt_of_lt_of_le (by omega : i + 1 < 1000) (by decide)
  have l2 : (qsD Q).length < most := by
    unfold qsD
    rw [List.length_map, t.ql]
    exact Nat.lt_of_lt_of_le (by omega : i < 1000) (by decide)
  refine ⟨1 + a, s1, ?_, p1⟩
  rw [← psD_snoc, ← qsD_snoc]
  have a1' : binD .add (.int 1) (.int a) = some (.int (1 + a)) := rfl
  generalize pD (e ++ [1 + a]) = PE at *
  generalize pD e = P at *
  generalize psD M = L at *
  generalize qsD Q = R at *
  unfold chB
  simp [fb_eq, sgD, Cst.d, e1, a1', m1, m2, ad, l1, l2]
theorem mo_step {cl : Cl} (hd : DrawOk cl) {C : List (List D)} (i B : Nat) (hB : B ≤ 100) (e : Pth) (M : List Pth) (Q : List (Pth × Pth)) (t : TI B e M Q) (lm : M.length ≤ 100) (lq : Q.length ≤ 100) (x4 x5 x6 x7 x8 x9 : Sl) (st : Pl) (h : Pok C st) :
    ∃ M' Q' y5 y6 st', fb cl (.one 4) moB (.int i) [.pl, .im (pD e), .ow (psD M), .ow (qsD Q), x4, x5, x6, x7, x8, x9] st = some (.nx [.pl, .im (pD e), .ow (psD M'), .ow (qsD Q'), .im (.int i), y5, y6, x7, x8, x9] st') ∧ Pok C st' ∧ TI (B + 2) e M' Q' ∧ M'.length ≤ M.length + 2 ∧ Q'.length ≤ Q.length + 1 := by
  have m1 : (1 : Nat) ≤ most := by decide
  have m2 : (2 : Nat) ≤ most := by decide
  have ne : 0 < M.length := by
    obtain ⟨T, rfl, _⟩ := t.hd
    exact Nat.succ_pos _
  have lpm : (psD M).length = M.length := by simp [psD]
  obtain ⟨r, s1, e1, r0, r1, p1⟩ := hd (((psD M).length : Nat) : Int) st h (by omega) (by omega)
  have at_ := atI_of (xs := psD M) r0 r1
  obtain ⟨m, hm, hme⟩ : ∃ m ∈ M, (psD M)[r.toNat]'(by omega) = pD m := by
    have z : (psD M)[r.toNat]'(by omega) ∈ psD M := List.getElem_mem _
    obtain ⟨m, hm, e⟩ := List.mem_map.mp z
    exact ⟨m, hm, e.symm⟩
  rw [hme] at at_
  have at2 : ixD (.list (psD M)) (.int r) = some (pD m) := at_
  clear hme at_
  obtain ⟨a, s2, e2, a0, a1, p2⟩ := hd 12 s1 p1 (by decide) (by decide)
  have ml := t.ln m hm
  have ad := add_p m (1 + a) (by omega)
  have a1' : binD .add (.int 1) (.int a) = some (.int (1 + a)) := rfl
  have cl_ : (m ++ [1 + a]).length ≤ B + 1 := by
    rw [List.length_append]
    show m.length + 1 ≤ _
    omega
  have cn : m ++ [1 + a] ≠ [] := by simp
  have sh := shP (m ++ [1 + a])
  have shl := shPs M
  have me := memP (m ++ [1 + a]) M
  have l1 : (psD M).length < most := Nat.lt_of_lt_of_le (by omega : (psD M).length < 1000) (by decide)
  have lq2 : (qsD Q).length < most := by
    unfold qsD
    rw [List.length_map]
    exact Nat.lt_of_lt_of_le (by omega : Q.length < 1000) (by decide)
  by_cases hin : m ++ [1 + a] ∈ M
  · rw [decide_eq_true hin] at me
    refine ⟨M, Q, .im (pD (m ++ [1 + a])), x6, s2, ?_, p2, ⟨t.nd, t.key, t.em, t.en, t.wk, t.hd, fun x hx => Nat.le_trans (t.ln x hx) (by omega)⟩, by omega, by omega⟩
    have ne : (true != true) = false := rfl
    generalize pD (m ++ [1 + a]) = PE at *
    generalize pD m = P at *
    generalize pD e = E at *
    generalize psD M = L at *
    generalize qsD Q = R at *
    unfold moB
    simp [fb_eq, sgD, Cst.d, e1, e2, a1', m1, at2, ad, sh, shl, me]
  · rw [decide_eq_false hin] at me
    obtain ⟨b, s3, e3, b0, b1, p3⟩ := hd 3 s2 p2 (by decide) (by decide)
    by_cases hb : b = 2
    · subst hb
      obtain ⟨d, s4, e4, d0, d1, p4⟩ := hd 3 s3 p3 (by decide) (by decide)
      have ad2 := add_p (m ++ [1 + a]) (1 + d) (by omega)
      have d1' : binD .add (.int 1) (.int d) = some (.int (1 + d)) := rfl
      have c2 : cmpD .eq (.int 2) (.int 2) = some true := rfl
      have l1' : (psD M ++ [pD (m ++ [1 + a])]).length < most := by
        rw [List.length_append]
        exact Nat.lt_of_lt_of_le (by show (psD M).length + 1 < 1000; omega) (by decide)
      refine ⟨(M ++ [m ++ [1 + a]]) ++ [m ++ [1 + a] ++ [1 + d]], Q ++ [(m ++ [1 + a], m ++ [1 + a] ++ [1 + d])], .im (pD (m ++ [1 + a])), .im (pD (m ++ [1 + a] ++ [1 + d])), s4, ?_, p4, t.wait hin cn cl_ (by simp) (by rw [List.length_append]; show _ + 1 ≤ _; omega), by simp, by simp⟩
      rw [← psD_snoc, ← psD_snoc, ← qsD_snoc]
      generalize pD (m ++ [1 + a] ++ [1 + d]) = PF at *
      generalize pD (m ++ [1 + a]) = PE at *
      generalize pD m = P at *
      generalize pD e = E at *
      generalize psD M = L at *
      generalize qsD Q = R at *
      unfold moB
      simp [fb_eq, sgD, Cst.d, e1, e2, e3, e4, a1', d1', m1, m2, at2, ad, ad2, sh, shl, me, c2, l1, l1', lq2] at l1' ⊢
      simp [l1']
    · have c2 : cmpD .eq (.int b) (.int 2) = some false := by
        show some (decide (b = 2)) = _
        rw [decide_eq_false hb]
      refine ⟨M ++ [m ++ [1 + a]], Q, .im (pD (m ++ [1 + a])), x6, s3, ?_, p3, t.more cn cl_, by simp, by omega⟩
      rw [← psD_snoc]
      generalize pD (m ++ [1 + a]) = PE at *
      generalize pD m = P at *
      generalize pD e = E at *
      generalize psD M = L at *
      generalize qsD Q = R at *
      unfold moB
      simp [fb_eq, sgD, Cst.d, e1, e2, e3, a1', m1, at2, ad, sh, shl, me, c2, l1]
end K24

set_option Elab.async false
set_option linter.all false
set_option maxRecDepth 100000
set_option maxHeartbeats 4000000
namespace K24
open PySem Ip L2 Cm
/-- the ones that take steps, the waits, the end of the chain -/
structure TR (R : List Pth) (Q : List (Pth × Pth)) (e : Pth) : Prop where
  nd : (Q.map Prod.fst).Nodup
  en : e ∉ Q.map Prod.fst
  wk : ∃ n, n ≤ 10 ∧ Wk Q e n []
  em : e ∈ R
  rl : R.length ≤ 100
  ql : Q.length ≤ 100
  ln : ∀ a ∈ R, a.length ≤ 1000
def trD (R : List Pth) (Q : List (Pth × Pth)) (e : Pth) : D := .list [.list (psD R), .list (qsD Q), pD e]
def PTasks (cl : Cl) : Prop := ∀ {C : List (List D)} (st : Pl), Pok C st → ∃ R Q e st', cl "_law_tasks" [none] st = some (trD R Q e, st') ∧ TR R Q e ∧ Pok C st'
theorem ch_loop {cl : Cl} (hd : DrawOk cl) {C : List (List D)} (n : Nat) (hn : n ≤ 6) (st : Pl) (h : Pok C st) : ∃ e M Q x4 x5 st', forG (fb cl (.one 4) chB) ((List.range n).map fun (k : Nat) => PyData.int (k : Int)) [.pl, .im (pD []), .ow (psD [[]]), .ow (qsD []), .no, .no, .no, .no, .no, .no] st = some (.nx [.pl, .im (pD e), .ow (psD M), .ow (qsD Q), x4, x5, .no, .no, .no, .no] st') ∧ TC n e M Q ∧ Pok C st' := by
  obtain ⟨env', st', e1, e, M, Q, x4, x5, rfl, t, p⟩ := forG_nx (f := fb cl (.one 4) chB) (fun i env s => ∃ e M Q x4 x5, env = [.pl, .im (pD e), .ow (psD M), .ow (qsD Q), x4, x5, .no, .no, .no, .no] ∧ TC i e M Q ∧ Pok C s) ((List.range n).map fun (k : Nat) => PyData.int (k : Int)) [.pl, .im (pD []), .ow (psD [[]]), .ow (qsD []), .no, .no, .no, .no, .no, .no] st ⟨_, _, _, _, _, rfl, tc0, h⟩
    (fun i d env s hi ⟨e, M, Q, x4, x5, q, t, p⟩ => by
      subst q
      obtain ⟨hi2, rfl⟩ := rng_at hi
      obtain ⟨x, s2, e2, p2⟩ := ch_step hd i (by omega) e M Q t x4 x5 .no .no .no .no s p
      exact ⟨_, s2, e2, _, _, _, _, _, rfl, t.step (by omega) x, p2⟩)
  simp only [List.length_map, List.length_range] at t
  exact ⟨e, M, Q, x4, x5, st', e1, t, p⟩
theorem mo_loop {cl : Cl} (hd : DrawOk cl) {C : List (List D)} (n : Nat) (hn : n ≤ 7) (k : Nat) (hk : k ≤ 6) (e : Pth) (M : List Pth) (Q : List (Pth × Pth)) (t : TC k e M Q) (x4 x5 x6 : Sl) (st : Pl) (h : Pok C st) : ∃ M' Q' y4 y5 y6 st', forG (fb cl (.one 4) moB) ((List.range n).map fun (k : Nat) => PyData.int (k : Int)) [.pl, .im (pD e), .ow (psD M), .ow (qsD Q), x4, x5, x6, .no, .no, .no] st = some (.nx [.pl, .im (pD e), .ow (psD M'), .ow (qsD Q'), y4, y5, y6, .no, .no, .no] st') ∧ (∃ B, B ≤ 100 ∧ TI B e M' Q') ∧ M'.length ≤ 40 ∧ Q'.length ≤ 40 ∧ Pok C st' := by
  obtain ⟨env', st', e1, M2, Q2, y4, y5, y6, rfl, t2, l1, l2, p⟩ := forG_nx (f := fb cl (.one 4) moB) (fun i env s => ∃ M Q x4 x5 x6, env = [.pl, .im (pD e), .ow (psD M), .ow (qsD Q), x4, x5, x6, .no, .no, .no] ∧ TI (k + 2 * i) e M Q ∧ M.length ≤ k + 1 + 2 * i ∧ Q.length ≤ k + i ∧ Pok C s) ((List.range n).map fun (k : Nat) => PyData.int (k : Int)) [.pl, .im (pD e), .ow (psD M), .ow (qsD Q), x4, x5, x6, .no, .no, .no] st ⟨_, _, _, _, _, rfl, t.ti, by rw [t.ml]; omega, by rw [t.ql]; omega, h⟩
    (fun i d env s hi ⟨M, Q, x4, x5, x6, q, t, l1, l2, p⟩ => by
      subst q
      obtain ⟨hi2, rfl⟩ := rng_at hi
      obtain ⟨M', Q', y5, y6, s2, e2, p2, t2, g1, g2⟩ := mo_step hd i (k + 2 * i) (by omega) e M Q t (by omega) (by omega) x4 x5 x6 .no .no .no s p
      exact ⟨_, s2, e2, _, _, _, _, _, rfl, by rw [show k + 2 * (i + 1) = k + 2 * i + 2 by omega]; exact t2, by omega, by omega, p2⟩)
  simp only [List.length_map, List.length_range] at l1 l2
  exact ⟨M2, Q2, y4, y5, y6, st', e1, ⟨_, by simp only [List.length_map, List.length_range]; omega, t2⟩, by omega, by omega, p⟩
theorem busy_ev {cl : Cl} {env : List Sl} {st : Pl} (Q : List (Pth × Pth)) (hl : Q.length ≤ 100) (hj : 8 < env.length) (hv : env[3]? = some (.im (.list (qsD Q)))) : ev cl (.lc 8 (.seq (.var 3)) .nil (.ix (.var 8) (.cst (.int 0)))) env st = some (.list (psD (Q.map Prod.fst)), st) := by
  have it : ei cl (.seq (.var 3)) env st = some (qsD Q, st) := by simp [hv, itS]
  have z := lc_map' (cl := cl) (e := .ix (.var 8) (.cst (.int 0))) (j := 8) (g := fun d => (ixD d (.int 0)).getD .none) it (by unfold qsD; rw [List.length_map]; exact m10 (by omega)) (fun d hd => by
    obtain ⟨q, _, rfl⟩ := List.mem_map.mp hd
    have e : ixD (qD q) (.int 0) = some (pD q.1) := rfl
    generalize qD q = X at *
    simp [Cst.d, hj, e])
  rw [z]
  congr 3
  unfold qsD psD
  rw [List.map_map, List.map_map]
  rfl
theorem free_ev {cl : Cl} {env : List Sl} {st : Pl} (M B : List Pth) (hl : M.length ≤ 100) (hj : 9 < env.length) (hv : env[2]? = some (.im (.list (psD M)))) (hb : env[7]? = some (.im (.list (psD B)))) : ev cl (.lc 9 (.seq (.var 2)) (.cons (.cmp .notin (.var 9) (.var 7)) .nil) (.var 9)) env st = some (.list (psD (M.filter fun m => !decide (m ∈ B))), st) := by
  have it : ei cl (.seq (.var 2)) env st = some (psD M, st) := by simp [hv, itS]
  have z := flt_ev (cl := cl) (c := .cmp .notin (.var 9) (.var 7)) (j := 9) (p := fun d => !(memD d (psD B))) it (by unfold psD; rw [List.length_map]; exact m10 (by omega)) hj (fun d hd => by
    obtain ⟨a, _, rfl⟩ := List.mem_map.mp hd
    have e : cmpD .notin (pD a) (.list (psD B)) = some (!(memD (pD a) (psD B))) := by
      show (inD (pD a) (.list (psD B))).map (!·) = _
      rw [in_p, memP]
      rfl
    generalize memD (pD a) (psD B) = b at *
    generalize pD a = X at *
    generalize psD B = Y at *
    simp [hj, hb, e])
  rw [z]
  congr 3
  unfold psD
  rw [List.filter_map]
  congr 1
  refine List.filter_congr fun a _ => ?_
  show (!(memD (pD a) (psD B))) = _
  rw [memP]
theorem tasks_run {cl : Cl} (hd : DrawOk cl) {C : List (List D)} (st : Pl) (h : Pok C st) : ∃ R Q e st', runI 1 cl I_law_tasks [none] st = some (trD R Q e, st') ∧ TR R Q e ∧ Pok C st' := by
  obtain ⟨a, s1, e1, a0, a1, p1⟩ := hd 7 st h (by decide) (by decide)
  have g1 := rngD_nat a0 (by omega)
  obtain ⟨e, M, Q, x4, x5, s2, e2, t, p2⟩ := ch_loop hd a.toNat (by omega) s1 p1
  obtain ⟨b, s3, e3, b0, b1, p3⟩ := hd 8 s2 p2 (by decide) (by decide)
  have g2 := rngD_nat b0 (by omega)
  obtain ⟨M2, Q2, y4, y5, y6, s4, e4, ⟨B, hB, t2⟩, l1, l2, p4⟩ := mo_loop hd b.toNat (by omega) a.toNat (by omega) e M Q t x4 x5 .no s3 p3
  obtain ⟨so, ef⟩ := t2.free_ok (by omega)
  obtain ⟨R, hR, pR⟩ := perm_ps (F := M2.filter fun m => !decide (m ∈ Q2.map Prod.fst)) (List.mergeSort_perm (psD (M2.filter fun m => !decide (m ∈ Q2.map Prod.fst))) (PySem.W.dataLe false id))
  have m0 : (0 : Nat) ≤ most := by decide
  have m1 : (1 : Nat) ≤ most := by decide
  have m3 : (3 : Nat) ≤ most := by decide
  refine ⟨R, Q2, e, s4, ?_, ⟨t2.nd, t2.en, t2.wk, pR.mem_iff.mpr ef, by rw [pR.length_eq]; exact Nat.le_trans (List.length_filter_le _ _) (by omega), by omega, fun x hx => Nat.le_trans (t2.ln x (List.mem_filter.mp (pR.mem_iff.mp hx)).1) (by omega)⟩, p4⟩
  rw [ta_eq]
  refine run_of (env := [.pl, .no, .no, .no, .no, .no, .no, .no, .no, .no]) rfl rfl ?_
  refine sq_nx (e1 := [.pl, .im (pD []), .no, .no, .no, .no, .no, .no, .no, .no]) (st1 := st) (set_run (by simp [m0, pD])) ?_
  refine sq_nx (e1 := [.pl, .im (pD []), .ow (psD [[]]), .no, .no, .no, .no, .no, .no, .no]) (st1 := st) (by simp [m0, m1, psD, pD]) ?_
  refine sq_nx (e1 := [.pl, .im (pD []), .ow (psD [[]]), .ow (qsD []), .no, .no, .no, .no, .no, .no]) (st1 := st) (by simp [m0, qsD]) ?_
  have f1 : evS cl (.forr (.one 4) (.rng1 (.call "_law_draw" (.pool 0 (.cons (.cst (.int 7)) .nil)))) chB) [.pl, .im (pD []), .ow (psD [[]]), .ow (qsD []), .no, .no, .no, .no, .no, .no] st = some (.nx [.pl, .im (pD e), .ow (psD M), .ow (qsD Q), x4, x5, .no, .no, .no, .no] s2) := by
    rw [q_evS_forr]
    have : ei cl (.rng1 (.call "_law_draw" (.pool 0 (.cons (.cst (.int 7)) .nil)))) [.pl, .im (pD []), .ow (psD [[]]), .ow (qsD []), .no, .no, .no, .no, .no, .no] st = some ((List.range a.toNat).map fun (k : Nat) => PyData.int (k : Int), s1) := by simp [Cst.d, e1, g1]
    rw [this]
    exact e2
  refine sq_nx f1 ?_
  have f2 : evS cl (.forr (.one 4) (.rng1 (.call "_law_draw" (.pool 0 (.cons (.cst (.int 8)) .nil)))) moB) [.pl, .im (pD e), .ow (psD M), .ow (qsD Q), x4, x5, .no, .no, .no, .no] s2 = some (.nx [.pl, .im (pD e), .ow (psD M2), .ow (qsD Q2), y4, y5, y6, .no, .no, .no] s4) := by
    rw [q_evS_forr]
    have : ei cl (.rng1 (.call "_law_draw" (.pool 0 (.cons (.cst (.int 8)) .nil)))) [.pl, .im (pD e), .ow (psD M), .ow (qsD Q), x4, x5, .no, .no, .no, .no] s2 = some ((List.range b.toNat).map fun (k : Nat) => PyData.int (k : Int), s3) := by simp [Cst.d, e3, g2]
    rw [this]
    exact e4
  refine sq_nx f2 ?_
  have fz3 : frzE [.pl, .im (pD e), .ow (psD M2), .ow (qsD Q2), y4, y5, y6, .no, .no, .no] [3] = [.pl, .im (pD e), .ow (psD M2), .im (.list (qsD Q2)), y4, y5, y6, .no, .no, .no] := rfl
  have fz23 : frzE [.pl, .im (pD e), .ow (psD M2), .im (.list (qsD Q2)), y4, y5, y6, .im (.list (psD (Q2.map Prod.fst))), .no, .no] [2, 3] = [.pl, .im (pD e), .im (.list (psD M2)), .im (.list (qsD Q2)), y4, y5, y6, .im (.list (psD (Q2.map Prod.fst))), .no, .no] := rfl
  refine sq_nx (e1 := [.pl, .im (pD e), .ow (psD M2), .im (.list (qsD Q2)), y4, y5, y6, .im (.list (psD (Q2.map Prod.fst))), .no, .no]) (st1 := s4) ?_ ?_
  · rw [q_evS_frz, fz3]
    exact set_run (busy_ev Q2 (by omega) (by simp) rfl)
  refine sq_rt ?_
  rw [q_evS_frz, fz23]
  refine ret_run ?_
  have fr := free_ev (cl := cl) (env := [.pl, .im (pD e), .im (.list (psD M2)), .im (.list (qsD Q2)), y4, y5, y6, .im (.list (psD (Q2.map Prod.fst))), .no, .no]) (st := s4) M2 (Q2.map Prod.fst) (by omega) (by simp) rfl rfl
  have sr : ev cl (.srt (.lc 9 (.seq (.var 2)) (.cons (.cmp .notin (.var 9) (.var 7)) .nil) (.var 9))) [.pl, .im (pD e), .im (.list (psD M2)), .im (.list (qsD Q2)), y4, y5, y6, .im (.list (psD (Q2.map Prod.fst))), .no, .no] s4 = some (.list (psD R), s4) := by
    rw [q_ev_srt, fr]
    show (if sortOk _ = true then some (PyData.list (srtA _), s4) else none) = _
    rw [if_pos so]
    unfold srtA
    rw [hR]
  unfold trD
  generalize psD R = RD at *
  generalize qsD Q2 = QD at *
  generalize psD M2 = MD at *
  generalize psD (Q2.map Prod.fst) = BD at *
  generalize pD e = E at *
  simp [sr, m3]
end K24

set_option Elab.async false
set_option linter.all false
set_option maxRecDepth 100000
set_option maxHeartbeats 4000000
namespace K24
open PySem Ip L2 Cm
def tD (q : Pth × Pth) : D × D := (pD q.1, pD q.2)
def tbD (Q : List (Pth × Pth)) : List (D × D) := Q.map tD
theorem ints_p : ∀ a : Pth, intsD (a.map PyData.int) = some a
  | [] => rfl
  | x :: a => by
    rw [List.map_cons]
    unfold intsD
    rw [ints_p a]
    rfl
theorem key_p (a : Pth) : keyT (pD a) = some a := ints_p a
theorem get_tb (a : Pth) : ∀ Q : List (Pth × Pth), dGet (pD a) (tbD Q) = (Q.find? fun q => decide (q.1 = a)).map fun q => pD q.2
  | [] => rfl
  | q :: Q => by
    show (if sameD (pD q.1) (pD a) = true then some (pD q.2) else dGet (pD a) (tbD Q)) = _
    have e : sameD (pD q.1) (pD a) = decide (q.1 = a) := sameD_kI q.1 a
    rw [e]
    by_cases h : q.1 = a
    · rw [decide_eq_true h, if_pos rfl, List.find?_cons_of_pos (by rw [decide_eq_true h])]
      rfl
    · rw [decide_eq_false h, if_neg (by decide), List.find?_cons_of_neg (by rw [decide_eq_false h]; decide), get_tb a Q]
theorem get_none {a : Pth} {Q : List (Pth × Pth)} (h : a ∉ Q.map Prod.fst) : dGet (pD a) (tbD Q) = none := by
  rw [get_tb]
  have : (Q.find? fun q => decide (q.1 = a)) = none := by
    rw [List.find?_eq_none]
    intro q hq z
    exact h (List.mem_map.mpr ⟨q, hq, of_decide_eq_true z⟩)
  rw [this]
  rfl
theorem get_some {a b : Pth} {Q : List (Pth × Pth)} (nd : (Q.map Prod.fst).Nodup) (h : (a, b) ∈ Q) : dGet (pD a) (tbD Q) = some (pD b) := by
  rw [get_tb]
  induction Q with
  | nil => cases h
  | cons q Q ih =>
    rw [List.map_cons, List.nodup_cons] at nd
    rcases List.mem_cons.mp h with rfl | h
    · rw [List.find?_cons_of_pos (by simp)]
      rfl
    · have ne : ¬ q.1 = a := fun e => nd.1 (List.mem_map.mpr ⟨(a, b), h, e.symm⟩)
      rw [List.find?_cons_of_neg (by rw [decide_eq_false ne]; decide)]
      exact ih nd.2 h
def wtB : ISs := .cons (.tput 1 (.ix (.var 2) (.cst (.int 0))) (.ix (.var 2) (.cst (.int 1)))) .nil
theorem wt_eq : I_law_waits = ⟨3, .cons (.tnew 1) (.cons (.forr (.one 2) (.seq (.var 0)) wtB) (.cons (.lockd [1]) (.cons (.ret (.var 1)) .nil)))⟩ := rfl
def PWaits (cl : Cl) : Prop := ∀ (Q : List (Pth × Pth)) (st : Pl), (Q.map Prod.fst).Nodup → Q.length ≤ 100 → cl "_law_waits" [some (.list (qsD Q))] st = some (dMkT (tbD Q), st)
theorem waits_run (cl : Cl) (Q : List (Pth × Pth)) (st : Pl) (nd : (Q.map Prod.fst).Nodup) (hl : Q.length ≤ 100) : runI 1 cl I_law_waits [some (.list (qsD Q))] st = some (dMkT (tbD Q), st) := by
  have sl : slOf (some (.list (qsD Q))) = .im (.list (qsD Q)) := rfl
  obtain ⟨env', st', e1, x2, rfl, rfl⟩ := forG_nx (f := fb cl (.one 2) wtB) (fun i env s => ∃ x2, env = [.im (.list (qsD Q)), .od true (tbD (Q.take i)), x2] ∧ s = st) (qsD Q) [.im (.list (qsD Q)), .od true (tbD []), .no] st ⟨.no, rfl, rfl⟩
    (fun i d env s hi ⟨x2, q, q2⟩ => by
      subst q
      subst q2
      have hi2 : i < Q.length := by
        have := (List.getElem?_eq_some_iff.mp hi).1
        simpa [qsD] using this
      have hq : Q[i]? = some Q[i] := List.getElem?_eq_getElem hi2
      have hd : d = qD Q[i] := by
        unfold qsD at hi
        rw [List.getElem?_map, hq] at hi
        exact (Option.some.inj hi).symm
      subst hd
      have nk : Q[i].1 ∉ (Q.take i).map Prod.fst := fun hm => by
        have z : (Q.map Prod.fst).Nodup := nd
        rw [← List.take_append_drop i Q, List.map_append, List.nodup_append] at z
        refine z.2.2 _ hm _ ?_ rfl
        rw [List.drop_eq_getElem_cons hi2, List.map_cons]
        exact List.mem_cons_self
      have tk : Q.take (i + 1) = Q.take i ++ [Q[i]] := by
        rw [List.take_add_one, hq]
        rfl
      have i0 : ixD (qD Q[i]) (.int 0) = some (pD Q[i].1) := rfl
      have i1 : ixD (qD Q[i]) (.int 1) = some (pD Q[i].2) := rfl
      have kk : (keyT (pD Q[i].1)).isSome = true := by rw [key_p]; rfl
      have lt : (tbD (Q.take i)).length < most := by
        unfold tbD
        rw [List.length_map, List.length_take]
        exact Nat.lt_of_lt_of_le (by omega : min i Q.length < 1000) (by decide)
      have put : dPut (tbD (Q.take i)) (pD Q[i].1) (pD Q[i].2) = tbD (Q.take (i + 1)) := by
        unfold dPut
        rw [get_none nk, tk, if_neg (by simp)]
        unfold tbD
        rw [List.map_append]
        rfl
      refine ⟨[.im (.list (qsD Q)), .od true (tbD (Q.take (i + 1))), .im (qD Q[i])], s, ?_, _, rfl, rfl⟩
      rw [← put]
      generalize qD Q[i] = X at *
      generalize pD Q[i].1 = A at *
      generalize pD Q[i].2 = B at *
      generalize tbD (Q.take i) = T at *
      generalize qsD Q = L at *
      unfold wtB
      simp [fb_eq, sgD, Cst.d, i0, i1, kk, lt])
  rw [wt_eq]
  refine run_of (env := [.im (.list (qsD Q)), .no, .no]) rfl rfl ?_
  refine sq_nx (e1 := [.im (.list (qsD Q)), .od true (tbD []), .no]) (st1 := st') (by simp [tbD]) ?_
  have hlen : (qsD Q).length = Q.length := by simp [qsD]
  rw [hlen, List.take_length] at e1
  have f1 : evS cl (.forr (.one 2) (.seq (.var 0)) wtB) [.im (.list (qsD Q)), .od true (tbD []), .no] st' = some (.nx [.im (.list (qsD Q)), .od true (tbD Q), x2] st') := by
    rw [q_evS_forr]
    have : ei cl (.seq (.var 0)) [.im (.list (qsD Q)), .od true (tbD []), .no] st' = some (qsD Q, st') := by simp [itS]
    rw [this]
    exact e1
  refine sq_nx f1 ?_
  refine sq_nx (e1 := [.im (.list (qsD Q)), .im (dMkT (tbD Q)), x2]) (st1 := st') ?_ (sq_rt (ret_run ?_))
  · rw [q_evS_lockd]
    rfl
  · rfl
def wv (ws : List Int) (n : Int) : Int := if n < ws.length then ws.getD n.toNat 0 else 0
def chs (R : List Pth) (ws : List Int) (n : Int) : Pth := R.getD (wv ws n % R.length).toNat []
theorem ix_is {ws : List Int} {n : Int} (h0 : 0 ≤ n) (h1 : n < ws.length) : atI (isD ws) n = some (.int (ws.getD n.toNat 0)) := by
  have hl : (isD ws).length = ws.length := by simp [isD]
  rw [atI_of h0 (by rw [hl]; exact h1)]
  congr 1
  simp only [isD, List.getElem_map]
  congr 1
  rw [List.getD_eq_getElem?_getD, List.getElem?_eq_getElem (by omega)]
  rfl
theorem ix_ps {R : List Pth} {w : Int} (h : 0 < R.length) : ixD (.list (psD R)) (.int (w % (R.length : Int))) = some (pD (R.getD (w % R.length).toNat [])) := by
  have hl : (psD R).length = R.length := by simp [psD]
  have p : (0 : Int) < (R.length : Int) := by omega
  have h0 := Int.emod_nonneg w (by omega : (R.length : Int) ≠ 0)
  have h1 := Int.emod_lt_of_pos w p
  show atI (psD R) _ = _
  rw [atI_of h0 (by rw [hl]; exact h1)]
  congr 1
  simp only [psD, List.getElem_map]
  congr 1
  rw [List.getD_eq_getElem?_getD, List.getElem?_eq_getElem (by omega)]
  rfl
def PChosen (cl : Cl) : Prop := ∀ (R : List Pth) (ws : List Int) (n : Int) (st : Pl), 0 < R.length → 0 ≤ n → cl "_law_chosen" [some (.list (psD R)), some (.list (isD ws)), some (.int n)] st = some (pD (chs R ws n), st)
theorem chosen_run (cl : Cl) (R : List Pth) (ws : List Int) (n : Int) (st : Pl) (hR : 0 < R.length) (h0 : 0 ≤ n) : runI 3 cl I_law_chosen [some (.list (psD R)), some (.list (isD ws)), some (.int n)] st = some (pD (chs R ws n), st) := by
  have hl : biD .len [.list (isD ws)] = some (.int (ws.length : Int)) := by
    show some (PyData.int ((isD ws).length : Int)) = _
    simp [isD]
  have hr : biD .len [.list (psD R)] = some (.int (R.length : Int)) := by
    show some (PyData.int ((psD R).length : Int)) = _
    simp [psD]
  have bi : ∀ w : Int, biD .int [.int w] = some (.int w) := fun _ => rfl
  have md : ∀ w : Int, binD .mod (.int w) (.int (R.length : Int)) = some (.int (w % (R.length : Int))) := fun w => if_pos (by omega)
  have ix := ix_ps (R := R) (w := wv ws n) hR
  unfold chs
  refine run_of (env := [.im (.list (psD R)), .im (.list (isD ws)), .im (.int n), .no]) rfl rfl ?_
  unfold I_law_chosen
  by_cases h : n < (ws.length : Int)
  · have e : wv ws n = ws.getD n.toNat 0 := if_pos h
    have i1 : ixD (.list (isD ws)) (.int n) = some (.int (ws.getD n.toNat 0)) := ix_is h0 h
    have c : cmpD .lt (.int n) (.int (ws.length : Int)) = some true := by
      show some (decide (n < (ws.length : Int))) = _
      rw [decide_eq_true h]
    rw [e] at ix ⊢
    generalize ws.getD n.toNat 0 = w at *
    generalize (ws.length : Int) = N at *
    generalize pD (R.getD (w % (R.length : Int)).toNat []) = P at *
    generalize (R.length : Int) = L at *
    generalize psD R = RD at *
    generalize isD ws = WD at *
    simp [Cst.d, hl, c, i1, hr, bi, md, ix]
  · have e : wv ws n = 0 := if_neg h
    have c : cmpD .lt (.int n) (.int (ws.length : Int)) = some false := by
      show some (decide (n < (ws.length : Int))) = _
      rw [decide_eq_false h]
    rw [e] at ix ⊢
    generalize (ws.length : Int) = N at *
    generalize pD (R.getD ((0 : Int) % (R.length : Int)).toNat []) = P at *
    generalize (R.length : Int) = L at *
    generalize psD R = RD at *
    generalize isD ws = WD at *
    simp [Cst.d, hl, c, hr, bi, md, ix] at ix ⊢
    try simp [ix]
end K24

set_option Elab.async false
set_option linter.all false
set_option maxRecDepth 100000
set_option maxHeartbeats 4000000
namespace K24
open PySem Ip L2 Cm
def wvO (ws : List Int) : D := mkOb "WovenTasks" ["weaving"] [.tuple (isD ws)]
def wtO : D := mkOb "WaitTasks" [] []
def PAt (cl : Cl) : Prop := ∀ (ws : List Int) (n : Int) (st : Pl), 0 ≤ n → cl "pick_at" [some (.tuple (isD ws)), some (.int n)] st = some (.int (wv ws n), st)
theorem at_run (cl : Cl) (ws : List Int) (n : Int) (st : Pl) (h0 : 0 ≤ n) : runI 2 cl I_pick_at [some (.tuple (isD ws)), some (.int n)] st = some (.int (wv ws n), st) := by
  have hl : biD .len [.tuple (isD ws)] = some (.int (ws.length : Int)) := by
    show some (PyData.int ((isD ws).length : Int)) = _
    simp [isD]
  refine run_of (env := [.im (.tuple (isD ws)), .im (.int n)]) rfl rfl ?_
  unfold I_pick_at
  by_cases h : n < (ws.length : Int)
  · have e : wv ws n = ws.getD n.toNat 0 := if_pos h
    have i1 : ixD (.tuple (isD ws)) (.int n) = some (.int (ws.getD n.toNat 0)) := ix_is h0 h
    have c : cmpD .lt (.int n) (.int (ws.length : Int)) = some true := by
      show some (decide (n < (ws.length : Int))) = _
      rw [decide_eq_true h]
    rw [e]
    generalize ws.getD n.toNat 0 = w at *
    generalize (ws.length : Int) = N at *
    generalize isD ws = WD at *
    simp [Cst.d, hl, c, i1]
  · have e : wv ws n = 0 := if_neg h
    have c : cmpD .lt (.int n) (.int (ws.length : Int)) = some false := by
      show some (decide (n < (ws.length : Int))) = _
      rw [decide_eq_false h]
    rw [e]
    generalize (ws.length : Int) = N at *
    generalize isD ws = WD at *
    simp [Cst.d, hl, c]
def PWoven (cl : Cl) : Prop := ∀ (ws : List Int) (R : List Pth) (Q : List (Pth × Pth)) (n : Int) (st : Pl), 0 < R.length → 0 ≤ n → cl "WovenTasks.pick" [some (wvO ws), some (.int n), some (.list (psD R)), some (dMkT (tbD Q))] st = some (pD (chs R ws n), st)
theorem woven_gd (ws : List Int) (a b c : Option D) : gdOb "WovenTasks" "pick" ["weaving"] [some (wvO ws), a, b, c] = true := by
  have e1 : isOb "WovenTasks" ["weaving"] (wvO ws) = true := by
    show (("WovenTasks" : Str) == "WovenTasks" && keysD ["weaving"] [(.str "weaving", .tuple (isD ws))]) = true
    rw [beq_self_eq_true]
    show (("weaving" : Str) == "weaving" && true) = true
    rw [beq_self_eq_true]
    rfl
  have e2 : binN.contains "pick" = false := by decide +kernel
  have e3 : (("pick" : Str) == ("__eq__" : Str)) = false := by decide +kernel
  have e4 : ¬ ("pick" : Str) ∈ binN := fun h => by
    rw [List.contains_iff_mem.mpr h] at e2
    cases e2
  simp [gdOb, e1, e3, e4]
theorem wait_gd (a b c : Option D) : gdOb "WaitTasks" "pick" [] [some wtO, a, b, c] = true := by
  have e1 : isOb "WaitTasks" [] wtO = true := by
    show (("WaitTasks" : Str) == "WaitTasks" && true) = true
    rw [beq_self_eq_true]
    rfl
  have e2 : binN.contains "pick" = false := by decide +kernel
  have e3 : (("pick" : Str) == ("__eq__" : Str)) = false := by decide +kernel
  have e4 : ¬ ("pick" : Str) ∈ binN := fun h => by
    rw [List.contains_iff_mem.mpr h] at e2
    cases e2
  simp [gdOb, e1, e3, e4]
theorem runM_pick {c : Str} {fs : List Str} {n : Nat} {cl : Cl} {I : IF} {as : List (Option D)} {st : Pl} (h : gdOb c "pick" fs as = true) : runM c "pick" fs n cl I as st = runI n cl I as st := by
  unfold runM lenG
  rw [if_pos h, if_neg (by decide +kernel)]
theorem woven_run {cl : Cl} (ha : PAt cl) (ws : List Int) (R : List Pth) (Q : List (Pth × Pth)) (n : Int) (st : Pl) (hR : 0 < R.length) (h0 : 0 ≤ n) : runI 4 cl I_WovenTasks_pick [some (wvO ws), some (.int n), some (.list (psD R)), some (dMkT (tbD Q))] st = some (pD (chs R ws n), st) := by
  have hr : biD .len [.list (psD R)] = some (.int (R.length : Int)) := by
    show some (PyData.int ((psD R).length : Int)) = _
    simp [psD]
  have md : ∀ w : Int, binD .mod (.int w) (.int (R.length : Int)) = some (.int (w % (R.length : Int))) := fun w => if_pos (by omega)
  have ix := ix_ps (R := R) (w := wv ws n) hR
  have pk := ha ws n st h0
  have fl : fldD "WovenTasks" "weaving" (wvO ws) = some (.tuple (isD ws)) := by
    have e : ("weaving" : Str) ≠ isaN := by decide +kernel
    unfold fldD
    rw [if_neg e]
    show (if ("WovenTasks" : Str) = "WovenTasks" then lkD "weaving" [(.str "weaving", .tuple (isD ws))] else none) = _
    rw [if_pos rfl]
    unfold lkD
    simp
  refine run_of (env := [.im (wvO ws), .im (.int n), .im (.list (psD R)), .im (dMkT (tbD Q))]) rfl rfl ?_
  unfold chs I_WovenTasks_pick
  generalize wv ws n = w at *
  generalize pD (R.getD (w % (R.length : Int)).toNat []) = P at *
  generalize (R.length : Int) = L at *
  generalize psD R = RD at *
  generalize wvO ws = O at *
  generalize dMkT (tbD Q) = T at *
  generalize isD ws = WD at *
  simp [Cst.d, fl, pk, hr, md, ix]
def PWait (cl : Cl) : Prop := ∀ (R : List Pth) (Q : List (Pth × Pth)) (e : Pth) (n : Int) (st : Pl), TR R Q e → cl "WaitTasks.pick" [some wtO, some (.int n), some (.list (psD R)), some (dMkT (tbD Q))] st = some (pD e, st)
def waC : IE := .tcin false 3 (.var 4)
def waB : ISs := .cons (.set 4 (.tcget 3 (.var 4))) .nil
theorem wa_eq : I_WaitTasks_pick = ⟨5, .cons (.calm (.set 4 (.tup .nil))) (.cons (.calm (.whr waC waB)) (.cons (.calm (.ret (.var 4))) .nil))⟩ := rfl
theorem wait_walk {cl : Cl} {Q : List (Pth × Pth)} {e : Pth} (nd : (Q.map Prod.fst).Nodup) (en : e ∉ Q.map Prod.fst) (x0 x1 x2 : Sl) (st : Pl) {n : Nat} {a : Pth} (w : Wk Q e n a) :
    whG (fun env st => ev cl waC env st) (fun env st => evSs cl waB env st) (n + 1) [x0, x1, x2, .im (dMkT (tbD Q)), .im (pD a)] st = some (.nx [x0, x1, x2, .im (dMkT (tbD Q)), .im (pD e)] st) := by
  have ts : tcSl (.im (dMkT (tbD Q))) = some (tbD Q) := rfl
  have kk : ∀ a, (keyT (pD a)).isSome = true := fun a => by rw [key_p]; rfl
  induction w with
  | z =>
    refine whG_end ?_
    have g := get_none en
    have k := kk e
    generalize pD e = E at *
    generalize dMkT (tbD Q) = T at *
    unfold waC
    simp [ts, k, g]
  | @s a b n h w ih =>
    have g := get_some nd h
    have k := kk a
    rw [whG_nx (env1 := [x0, x1, x2, .im (dMkT (tbD Q)), .im (pD b)]) (st1 := st) (st2 := st) ?_ ?_]
    · exact ih
    · generalize pD b = PB at *
      generalize pD a = PA at *
      generalize dMkT (tbD Q) = T at *
      unfold waC
      simp [ts, k, g]
    · generalize pD b = PB at *
      generalize pD a = PA at *
      generalize dMkT (tbD Q) = T at *
      unfold waB
      simp [ts, k, g]
theorem wait_run (cl : Cl) (R : List Pth) (Q : List (Pth × Pth)) (e : Pth) (n : Int) (st : Pl) (t : TR R Q e) : runI 4 cl I_WaitTasks_pick [some wtO, some (.int n), some (.list (psD R)), some (dMkT (tbD Q))] st = some (pD e, st) := by
  obtain ⟨k, hk, w⟩ := t.wk
  have m0 : (0 : Nat) ≤ most := by decide
  have z := whG_up (m := most) (wait_walk (cl := cl) t.nd t.en (.im wtO) (.im (.int n)) (.im (.list (psD R))) st w) (Nat.le_trans (by omega : k + 1 ≤ 1000) (by decide))
  rw [wa_eq]
  refine run_of (env := [.im wtO, .im (.int n), .im (.list (psD R)), .im (dMkT (tbD Q)), .no]) rfl rfl ?_
  refine sq_nx (e1 := [.im wtO, .im (.int n), .im (.list (psD R)), .im (dMkT (tbD Q)), .im (pD [])]) (st1 := st) (by simp [m0, pD]) ?_
  refine sq_nx (e1 := [.im wtO, .im (.int n), .im (.list (psD R)), .im (dMkT (tbD Q)), .im (pD e)]) (st1 := st) ?_ (sq_rt ?_)
  · rw [q_evS_calm, q_evS_whr]
    exact z
  · rw [q_evS_calm]
    exact ret_run rfl
def PMade (cl : Cl) : Prop := ∀ (ws : List Int) (st : Pl), cl "WovenTasks" [some (.tuple [.list (isD ws)])] st = some (wvO ws, st) ∧ cl "WovenTasks" [some (.tuple [.tuple (isD ws)])] st = some (wvO ws, st)
theorem made_run (cl : Cl) (ws : List Int) (d : D) (st : Pl) (hs : slOf (some d) = .im d) (ht : biD .tuple [d] = some (.tuple (isD ws))) : runP "WovenTasks" 1 cl I_WovenTasks [some (.tuple [d])] st = some (wvO ws, st) := by
  have m1 : (1 : Nat) ≤ most := by decide
  unfold runP
  simp only [List.length_cons, List.length_nil]
  rw [if_pos ⟨trivial, m1⟩]
  have st0 : startP I_WovenTasks.n [d] = [.sf, .im d] := by
    unfold startP
    show Sl.sf :: ([slOf (some d)] ++ []) = _
    rw [hs]
    rfl
  rw [st0]
  show (match (some (Out.nx [Sl.sf, Sl.im d] st) : Option Out) with
    | some (.nx env1 st1) => if isSf env1[0]? = true then (match ea cl I_WovenTasks.es env1 st1 with
      | some (us, st2) => some (mkOb "WovenTasks" I_WovenTasks.fs us, st2)
      | none => none) else none
    | _ => none) = _
  have e : ea cl I_WovenTasks.es [Sl.sf, Sl.im d] st = some ([.tuple (isD ws)], st) := by
    unfold I_WovenTasks
    simp [ht]
  simp only [e]
  rfl
end K24

set_option Elab.async false
set_option linter.all false
set_option maxRecDepth 100000
set_option maxHeartbeats 4000000
namespace K24
open PySem Ip L2 Cm
def gsD : List (Str × Str) := [("WaitTasks", "WaitTasks.pick"), ("WovenTasks", "WovenTasks.pick")]
def dsE : IE := .dsp gsD (.ix (.var 0) (.var 10)) (.cons (.var 3) (.cons (.var 7) (.cons (.var 8) .nil)))
def pkB : ISs := .cons (.iff (.not (.call "_law_same" (.cons dsE (.cons (.ix (.var 9) (.var 10)) .nil)))) (.cons (.ret (.cst (.bl false))) .nil) .nil) .nil
def pkO : IE := .or (.cmp .ne (.var 7) (.var 4)) (.cmp .ne (.tclen 8) (.bi .len (.cons (.var 5) .nil)))
def pkR : IE := .bi .all (.cons (.lc 11 (.seq (.var 5)) .nil (.cmp .eq (.tcgt1 8 (.ix (.var 11) (.cst (.int 0)))) (.ix (.var 11) (.cst (.int 1))))) .nil)
theorem pk_eq : I_law_picked = ⟨12, .cons (.unp [4, 5, 6] (.var 2))
  (.cons (.set 7 (.bi .list (.cons (.var 4) .nil)))
  (.cons (.set 8 (.call "_law_waits" (.cons (.var 5) .nil)))
  (.cons (.set 9 (.lst (.cons (.call "_law_chosen" (.cons (.var 4) (.cons (.ix (.var 1) (.cst (.int 0))) (.cons (.var 3) .nil)))) (.cons (.call "_law_chosen" (.cons (.var 4) (.cons (.ix (.var 1) (.cst (.int 1))) (.cons (.var 3) .nil)))) (.cons (.var 6) .nil)))))
  (.cons (.forr (.one 10) (.seq (.lst (.cons (.cst (.int 0)) (.cons (.cst (.int 2)) (.cons (.cst (.int 1)) (.cons (.cst (.int 0)) (.cons (.cst (.int 2)) .nil))))))) pkB)
  (.cons (.iff pkO (.cons (.ret (.cst (.bl false))) .nil) .nil)
  (.cons (.ret pkR) .nil))))))⟩ := rfl
structure PAll (cl : Cl) : Prop where
  same : ∀ (a : Pth) (st : Pl), a.length ≤ 1000 → cl "_law_same" [some (pD a), some (pD a)] st = some (.bool true, st)
  waits : PWaits cl
  chosen : PChosen cl
  woven : PWoven cl
  wait : PWait cl
def tsD (w0 w1 : List Int) : D := .list [wvO w0, wvO w1, wtO]
def woD (w0 w1 : List Int) : D := .list [.list (isD w0), .list (isD w1)]
theorem dsp_ev {cl : Cl} {o : D} {c g : Str} {env : List Sl} {st : Pl} {a b d r : D} (ho : ev cl (.ix (.var 0) (.var 10)) env st = some (o, st)) (hc : clsD o = some c) (hg : gsD.lookup c = some g) (h3 : env[3]? = some (.im a)) (h7 : env[7]? = some (.im b)) (h8 : env[8]? = some (.im d)) (hr : cl g [some o, some a, some b, some d] st = some (r, st)) :
    ev cl dsE env st = some (r, st) := by
  unfold dsE
  rw [q_ev_dsp, ho]
  simp only [hc, hg]
  simp [h3, h7, h8, hr]
theorem pk_step {cl : Cl} (F : PAll cl) (w0 w1 : List Int) (R : List Pth) (Q : List (Pth × Pth)) (e : Pth) (t : TR R Q e) (n : Int) (h0 : 0 ≤ n) (x1 x2 x4 x5 x6 x10 x11 : Sl) (st : Pl) (hc : (chs R w0 n).length ≤ 1000 ∧ (chs R w1 n).length ≤ 1000 ∧ e.length ≤ 1000) (k : Int) (hk : k = 0 ∨ k = 1 ∨ k = 2) :
    fb cl (.one 10) pkB (.int k) [.im (tsD w0 w1), x1, x2, .im (.int n), x4, x5, x6, .im (.list (psD R)), .im (dMkT (tbD Q)), .im (.list [pD (chs R w0 n), pD (chs R w1 n), pD e]), x10, x11] st = some (.nx [.im (tsD w0 w1), x1, x2, .im (.int n), x4, x5, x6, .im (.list (psD R)), .im (dMkT (tbD Q)), .im (.list [pD (chs R w0 n), pD (chs R w1 n), pD e]), .im (.int k), x11] st) := by
  have hR : 0 < R.length := List.length_pos_of_mem t.em
  have fin : ∀ (o : D) (c g : Str) (r : D), ixD (tsD w0 w1) (.int k) = some o → clsD o = some c → gsD.lookup c = some g → cl g [some o, some (.int n), some (.list (psD R)), some (dMkT (tbD Q))] st = some (r, st) → ixD (.list [pD (chs R w0 n), pD (chs R w1 n), pD e]) (.int k) = some r → cl "_law_same" [some r, some r] st = some (.bool true, st) →
      fb cl (.one 10) pkB (.int k) [.im (tsD w0 w1), x1, x2, .im (.int n), x4, x5, x6, .im (.list (psD R)), .im (dMkT (tbD Q)), .im (.list [pD (chs R w0 n), pD (chs R w1 n), pD e]), x10, x11] st = some (.nx [.im (tsD w0 w1), x1, x2, .im (.int n), x4, x5, x6, .im (.list (psD R)), .im (dMkT (tbD Q)), .im (.list [pD (chs R w0 n), pD (chs R w1 n), pD e]), .im (.int k), x11] st) := fun o c g r i1 c1 g1 r1 i2 s1 => by
    have z := dsp_ev (cl := cl) (o := o) (env := [.im (tsD w0 w1), x1, x2, .im (.int n), x4, x5, x6, .im (.list (psD R)), .im (dMkT (tbD Q)), .im (.list [pD (chs R w0 n), pD (chs R w1 n), pD e]), .im (.int k), x11]) (st := st) (by
      generalize tsD w0 w1 = T at *
      simp [i1]) c1 g1 rfl rfl rfl r1
    generalize tsD w0 w1 = T at *
    generalize pD (chs R w0 n) = C0 at *
    generalize pD (chs R w1 n) = C1 at *
    generalize pD e = E at *
    generalize dMkT (tbD Q) = W at *
    generalize psD R = RD at *
    unfold pkB
    simp [fb_eq, sgD, z, i2, s1]
  have k1 : gsD.lookup (Str.ofString "WovenTasks") = some (Str.ofString "WovenTasks.pick") := by decide +kernel
  have k2 : gsD.lookup (Str.ofString "WaitTasks") = some (Str.ofString "WaitTasks.pick") := by decide +kernel
  rcases hk with rfl | rfl | rfl
  · exact fin (wvO w0) "WovenTasks" "WovenTasks.pick" _ rfl rfl k1 (F.woven w0 R Q n st hR h0) rfl (F.same _ st hc.1)
  · exact fin (wvO w1) "WovenTasks" "WovenTasks.pick" _ rfl rfl k1 (F.woven w1 R Q n st hR h0) rfl (F.same _ st hc.2.1)
  · exact fin wtO "WaitTasks" "WaitTasks.pick" _ rfl rfl k2 (F.wait R Q e n st t) rfl (F.same _ st hc.2.2)
def PPicked (cl : Cl) : Prop := ∀ (w0 w1 : List Int) (R : List Pth) (Q : List (Pth × Pth)) (e : Pth) (n : Int) (st : Pl), TR R Q e → (∀ a ∈ R, a.length ≤ 1000) → 0 ≤ n → cl "_law_picked" [some (tsD w0 w1), some (woD w0 w1), some (trD R Q e), some (.int n)] st = some (.bool true, st)
theorem chs_mem {R : List Pth} {ws : List Int} {n : Int} (hR : 0 < R.length) : chs R ws n ∈ R := by
  unfold chs
  have p : (0 : Int) < (R.length : Int) := by omega
  have h0 := Int.emod_nonneg (wv ws n) (by omega : (R.length : Int) ≠ 0)
  have h1 := Int.emod_lt_of_pos (wv ws n) p
  rw [List.getD_eq_getElem?_getD, List.getElem?_eq_getElem (by omega)]
  exact List.getElem_mem _
theorem picked_run {cl : Cl} (F : PAll cl) (w0 w1 : List Int) (R : List Pth) (Q : List (Pth × Pth)) (e : Pth) (n : Int) (st : Pl) (t : TR R Q e) (hl : ∀ a ∈ R, a.length ≤ 1000) (h0 : 0 ≤ n) : runI 4 cl I_law_picked [some (tsD w0 w1), some (woD w0 w1), some (trD R Q e), some (.int n)] st = some (.bool true, st) := by
  have hR : 0 < R.length := List.length_pos_of_mem t.em
  have hc : (chs R w0 n).length ≤ 1000 ∧ (chs R w1 n).length ≤ 1000 ∧ e.length ≤ 1000 := ⟨hl _ (chs_mem hR), hl _ (chs_mem hR), hl _ t.em⟩
  have m3 : (3 : Nat) ≤ most := by decide
  have m5 : (5 : Nat) ≤ most := by decide
  have wa := F.waits Q st t.nd t.ql
  have c0 := F.chosen R w0 n st hR h0
  have c1 := F.chosen R w1 n st hR h0
  have i0 : ixD (woD w0 w1) (.int 0) = some (.list (isD w0)) := rfl
  have i1 : ixD (woD w0 w1) (.int 1) = some (.list (isD w1)) := rfl
  have li : biD .list [.list (psD R)] = some (.list (psD R)) := rfl
  rw [pk_eq]
  refine run_of (env := [.im (tsD w0 w1), .im (woD w0 w1), .im (trD R Q e), .im (.int n), .no, .no, .no, .no, .no, .no, .no, .no]) rfl rfl ?_
  refine sq_nx (e1 := [.im (tsD w0 w1), .im (woD w0 w1), .im (trD R Q e), .im (.int n), .im (.list (psD R)), .im (.list (qsD Q)), .im (pD e), .no, .no, .no, .no, .no]) (st1 := st) rfl ?_
  refine sq_nx (e1 := [.im (tsD w0 w1), .im (woD w0 w1), .im (trD R Q e), .im (.int n), .im (.list (psD R)), .im (.list (qsD Q)), .im (pD e), .im (.list (psD R)), .no, .no, .no, .no]) (st1 := st) (set_run rfl) ?_
  refine sq_nx (e1 := [.im (tsD w0 w1), .im (woD w0 w1), .im (trD R Q e), .im (.int n), .im (.list (psD R)), .im (.list (qsD Q)), .im (pD e), .im (.list (psD R)), .im (dMkT (tbD Q)), .no, .no, .no]) (st1 := st) (set_run (by
    generalize dMkT (tbD Q) = W at *
    generalize qsD Q = QD at *
    simp [wa])) ?_
  refine sq_nx (e1 := [.im (tsD w0 w1), .im (woD w0 w1), .im (trD R Q e), .im (.int n), .im (.list (psD R)), .im (.list (qsD Q)), .im (pD e), .im (.list (psD R)), .im (dMkT (tbD Q)), .im (.list [pD (chs R w0 n), pD (chs R w1 n), pD e]), .no, .no]) (st1 := st) (set_run (by
    generalize pD (chs R w0 n) = C0 at *
    generalize pD (chs R w1 n) = C1 at *
    generalize pD e = E at *
    generalize woD w0 w1 = WD at *
    generalize isD w0 = W0 at *
    generalize isD w1 = W1 at *
    generalize psD R = RD at *
    simp [Cst.d, i0, i1, c0, c1, m3])) ?_
  obtain ⟨env', st', e1, x10, rfl, rfl⟩ := forG_nx (f := fb cl (.one 10) pkB) (fun _ env s => ∃ x10, env = [.im (tsD w0 w1), .im (woD w0 w1), .im (trD R Q e), .im (.int n), .im (.list (psD R)), .im (.list (qsD Q)), .im (pD e), .im (.list (psD R)), .im (dMkT (tbD Q)), .im (.list [pD (chs R w0 n), pD (chs R w1 n), pD e]), x10, .no] ∧ s = st) [.int 0, .int 2, .int 1, .int 0, .int 2] [.im (tsD w0 w1), .im (woD w0 w1), .im (trD R Q e), .im (.int n), .im (.list (psD R)), .im (.list (qsD Q)), .im (pD e), .im (.list (psD R)), .im (dMkT (tbD Q)), .im (.list [pD (chs R w0 n), pD (chs R w1 n), pD e]), .no, .no] st ⟨.no, rfl, rfl⟩
    (fun i d env s hi ⟨x10, q, q2⟩ => by
      subst q
      subst q2
      have hm := List.mem_of_getElem? hi
      obtain ⟨k, rfl, hk⟩ : ∃ k : Int, d = .int k ∧ (k = 0 ∨ k = 1 ∨ k = 2) := by
        simp only [List.mem_cons, List.not_mem_nil, or_false] at hm
        rcases hm with rfl | rfl | rfl | rfl | rfl
        · exact ⟨0, rfl, .inl rfl⟩
        · exact ⟨2, rfl, .inr (.inr rfl)⟩
        · exact ⟨1, rfl, .inr (.inl rfl)⟩
        · exact ⟨0, rfl, .inl rfl⟩
        · exact ⟨2, rfl, .inr (.inr rfl)⟩
      exact ⟨_, _, pk_step F w0 w1 R Q e t n h0 _ _ _ _ _ x10 .no s hc k hk, _, rfl, rfl⟩)
  have f1 : evS cl (.forr (.one 10) (.seq (.lst (.cons (.cst (.int 0)) (.cons (.cst (.int 2)) (.cons (.cst (.int 1)) (.cons (.cst (.int 0)) (.cons (.cst (.int 2)) .nil))))))) pkB) [.im (tsD w0 w1), .im (woD w0 w1), .im (trD R Q e), .im (.int n), .im (.list (psD R)), .im (.list (qsD Q)), .im (pD e), .im (.list (psD R)), .im (dMkT (tbD Q)), .im (.list [pD (chs R w0 n), pD (chs R w1 n), pD e]), .no, .no] st' = some (.nx [.im (tsD w0 w1), .im (woD w0 w1), .im (trD R Q e), .im (.int n), .im (.list (psD R)), .im (.list (qsD Q)), .im (pD e), .im (.list (psD R)), .im (dMkT (tbD Q)), .im (.list [pD (chs R w0 n), pD (chs R w1 n), pD e]), x10, .no] st') := by
    rw [q_evS_forr]
    have : ∀ env s, ei cl (.seq (.lst (.cons (.cst (.int 0)) (.cons (.cst (.int 2)) (.cons (.cst (.int 1)) (.cons (.cst (.int 0)) (.cons (.cst (.int 2)) .nil))))))) env s = some ([.int 0, .int 2, .int 1, .int 0, .int 2], s) := fun env s => by simp [Cst.d, m5, itS]
    rw [this]
    exact e1
  refine sq_nx f1 ?_
  have o1 : cmpD .ne (.list (psD R)) (.list (psD R)) = some false := by
    show (eqD (.list (psD R)) (.list (psD R))).map (!·) = _
    rw [eq_ps, decide_eq_true rfl]
    rfl
  have o2 : cmpD .ne (.int ((tbD Q).length : Int)) (.int ((qsD Q).length : Int)) = some false := by
    show (some (decide (((tbD Q).length : Int) = ((qsD Q).length : Int)))).map (!·) = _
    rw [decide_eq_true (by simp [tbD, qsD])]
    rfl
  have ql : biD .len [.list (qsD Q)] = some (.int ((qsD Q).length : Int)) := rfl
  have ts : tcSl (.im (dMkT (tbD Q))) = some (tbD Q) := rfl
  refine sq_iff (st1 := st') ?_ (sq_rt (ret_run ?_))
  · generalize dMkT (tbD Q) = W at *
    generalize psD R = RD at *
    generalize tbD Q = TB at *
    generalize qsD Q = QD at *
    generalize trD R Q e = TT at *
    generalize (QD.length : Int) = n2 at *
    unfold pkO
    simp [o1, o2, ql, ts]
  · unfold pkR
    have it : ∀ x10, ei cl (.seq (.var 5)) [.im (tsD w0 w1), .im (woD w0 w1), .im (trD R Q e), .im (.int n), .im (.list (psD R)), .im (.list (qsD Q)), .im (pD e), .im (.list (psD R)), .im (dMkT (tbD Q)), .im (.list [pD (chs R w0 n), pD (chs R w1 n), pD e]), x10, .no] st' = some (qsD Q, st') := fun x10 => by simp [itS]
    have z := all_ev (cl := cl) (e := .cmp .eq (.tcgt1 8 (.ix (.var 11) (.cst (.int 0)))) (.ix (.var 11) (.cst (.int 1)))) (j := 11) (p := fun _ => true) (it x10) (by unfold qsD; rw [List.length_map]; exact m10 (by have := t.ql; omega)) (fun d hd => by
      obtain ⟨q, hq, rfl⟩ := List.mem_map.mp hd
      have j0 : ixD (qD q) (.int 0) = some (pD q.1) := rfl
      have j1 : ixD (qD q) (.int 1) = some (pD q.2) := rfl
      have g := get_some t.nd (show (q.1, q.2) ∈ Q from hq)
      have kk : (keyT (pD q.1)).isSome = true := by rw [key_p]; rfl
      have c : cmpD .eq (pD q.2) (pD q.2) = some true := by
        show eqD (pD q.2) (pD q.2) = _
        rw [eq_p, decide_eq_true rfl]
      generalize qD q = X at *
      generalize pD q.1 = A at *
      generalize pD q.2 = B at *
      generalize dMkT (tbD Q) = W at *
      simp [Cst.d, j0, j1, ts, kk, g, c])
    rw [z]
    congr 3
    rw [List.all_eq_true]
    exact fun _ _ => rfl
end K24

set_option Elab.async false
set_option linter.all false
set_option maxRecDepth 100000
set_option maxHeartbeats 4000000
namespace K24
open PySem Ip L2 Cm
theorem pre {c : Nat} {P : Nat → Prop} (h : ∀ m, c ≤ m → P (m + 1)) : ∀ m, c + 1 ≤ m → P m := fun m hm => by
  obtain ⟨k, rfl⟩ : ∃ k, m = k + 1 := ⟨m - 1, by omega⟩
  exact h k (by omega)
theorem t_mixed : ∀ m, 1 ≤ m → MixedOk (tb m) := pre (c := 0) fun m _ c t lim st h0 h1 h2 h3 h4 => by
  obtain ⟨r, e, q⟩ := mixed_run (tb m) c t lim st h0 h1 h2 h3 h4
  exact ⟨r, (tb_law_mixed m _ st).trans e, q⟩
theorem t_draw : ∀ m, 2 ≤ m → DrawOk (tb m) := pre (c := 1) fun m hm _ lim st h h0 h1 => by
  obtain ⟨r, s, e, q⟩ := draw_run (t_mixed m hm) lim st h h0 h1
  exact ⟨r, s, (tb_law_draw m _ st).trans e, q⟩
theorem t_int : ∀ m, 1 ≤ m → IsIntOk (tb m) := pre (c := 0) fun m _ d st h => (tb_law_is_int m _ st).trans (is_int_run (tb m) d st h)
theorem t_same : ∀ k m, k + 2 ≤ m → SameOk (tb m) k := fun k => by
  induction k with
  | zero => exact pre (c := 1) fun m hm d st h => (tb_law_same m _ st).trans (same_scal (t_int m hm) d st h)
  | succ k ih => exact pre (c := k + 2) fun m hm d st h => (tb_law_same m _ st).trans (same_run (t_int m (by omega)) (ih m hm) d st h)
theorem t_numbers : ∀ m, 3 ≤ m → PNumbers (tb m) := pre (c := 2) fun m hm _ st h => by
  obtain ⟨w, s, e, q⟩ := numbers_run (t_draw m hm) st h
  exact ⟨w, s, (tb_law_numbers m _ st).trans e, q⟩
theorem t_tasks : ∀ m, 3 ≤ m → PTasks (tb m) := pre (c := 2) fun m hm _ st h => by
  obtain ⟨R, Q, e0, s, e, q⟩ := tasks_run (t_draw m hm) st h
  exact ⟨R, Q, e0, s, (tb_law_tasks m _ st).trans e, q⟩
theorem t_waits : ∀ m, 1 ≤ m → PWaits (tb m) := pre (c := 0) fun m _ Q st h1 h2 => (tb_law_waits m _ st).trans (waits_run (tb m) Q st h1 h2)
theorem t_chosen : ∀ m, 1 ≤ m → PChosen (tb m) := pre (c := 0) fun m _ R ws n st h1 h2 => (tb_law_chosen m _ st).trans (chosen_run (tb m) R ws n st h1 h2)
theorem t_at : ∀ m, 1 ≤ m → PAt (tb m) := pre (c := 0) fun m _ ws n st h => (tb_pick_at m _ st).trans (at_run (tb m) ws n st h)
theorem t_woven : ∀ m, 2 ≤ m → PWoven (tb m) := pre (c := 1) fun m hm ws R Q n st h1 h2 => (tb_WovenTasks_pick m _ st).trans ((runM_pick (woven_gd ws _ _ _)).trans (woven_run (t_at m hm) ws R Q n st h1 h2))
theorem t_wait : ∀ m, 1 ≤ m → PWait (tb m) := pre (c := 0) fun m _ R Q e n st t => (tb_WaitTasks_pick m _ st).trans ((runM_pick (wait_gd _ _ _)).trans (wait_run (tb m) R Q e n st t))
theorem t_made : ∀ m, 1 ≤ m → PMade (tb m) := pre (c := 0) fun m _ ws st => ⟨(tb_WovenTasks m _ st).trans (made_run (tb m) ws _ st rfl rfl), (tb_WovenTasks m _ st).trans (made_run (tb m) ws _ st rfl rfl)⟩
theorem dep_is {k : Nat} {ws : List Int} (h : ws.length ≤ 1000) : dep (k + 1) (.tuple (isD ws)) := by
  rw [dep_succ]
  refine .inr ⟨isD ws, .inr rfl, by simp only [isD, List.length_map]; exact m10 h, fun x hx => ?_⟩
  obtain ⟨n, _, rfl⟩ := List.mem_map.mp hx
  cases k with
  | zero => exact trivial
  | succ k =>
    rw [dep_succ]
    exact .inl trivial
theorem t_all (m : Nat) (h : 4 ≤ m) : PAll (tb m) where
  same := fun a st ha => t_same 1 m (by omega) (pD a) st (dep_is (k := 0) (ws := a) ha)
  waits := t_waits m (by omega)
  chosen := t_chosen m (by omega)
  woven := t_woven m (by omega)
  wait := t_wait m (by omega)
theorem t_picked : ∀ m, 5 ≤ m → PPicked (tb m) := pre (c := 4) fun m hm w0 w1 R Q e n st t hl h0 => (tb_law_picked m _ st).trans (picked_run (t_all m hm) w0 w1 R Q e n st t hl h0)
def depth : Nat := 7
theorem pok0 (ns : List Int) : Pok [] (pl0 ns) := ⟨Int.le_refl 0, Int.le_refl 0, by show (0 : Int) < 10 ^ 18; decide, by show (0 : Int) ≤ 7; decide, rfl⟩
structure Facts (cl : Cl) : Prop where
  draw : DrawOk cl
  numbers : PNumbers cl
  tasks : PTasks cl
  made : PMade cl
  picked : PPicked cl
  same : ∀ (a b : List Int) (st : Pl), a.length ≤ 1000 → b.length ≤ 1000 → cl "_law_same" [some (.list [.tuple (isD a), .tuple (isD b)]), some (.list [.tuple (isD a), .tuple (isD b)])] st = some (.bool true, st)
theorem t_facts : Facts (tb depth) where
  draw := t_draw 7 (by decide)
  numbers := t_numbers 7 (by decide)
  tasks := t_tasks 7 (by decide)
  made := t_made 7 (by decide)
  picked := t_picked 7 (by decide)
  same := fun a b st ha hb => t_same 2 7 (by decide) _ st (by
    rw [dep_succ]
    refine .inr ⟨_, .inl rfl, m10 (by show 2 ≤ 1000; decide), fun x hx => ?_⟩
    simp only [List.mem_cons, List.not_mem_nil, or_false] at hx
    rcases hx with rfl | rfl
    · exact dep_is ha
    · exact dep_is hb)
theorem noL_is : ∀ ws : List Int, noLsts (isD ws) = true
  | [] => by
    show noLsts [] = true
    unfold noLsts
    rfl
  | w :: ws => by
    show noLsts (.int w :: isD ws) = true
    unfold noLsts
    rw [noL_is ws]
    unfold noLst
    rfl
theorem noL_w (ws : List Int) : noLst (wvO ws) = true := by
  show noLst (.dict ((.str "WovenTasks", .none) :: [(.str "weaving", .tuple (isD ws))])) = true
  unfold noLst noLstP noLst noLstP
  rw [noL_is]
  rfl
def wkB : ISs := .cons (.iff (.not (.call "_law_picked" (.cons (.var 4) (.cons (.var 2) (.cons (.var 7) (.cons (.var 9) .nil)))))) (.cons (.ret (.cst (.bl false))) .nil) .nil) .nil
def wcE : IE := .lst (.cons (.cst (.int 0)) (.cons (.mx2 (.cst (.int 0)) (.bin .sub (.ix (.var 5) (.cst (.int 0))) (.cst (.int 1)))) (.cons (.ix (.var 5) (.cst (.int 0))) (.cons (.mx2 (.cst (.int 0)) (.bin .sub (.ix (.var 5) (.cst (.int 1))) (.cst (.int 1)))) (.cons (.ix (.var 5) (.cst (.int 1))) (.cons (.call "_law_draw" (.pool 1 (.cons (.cst (.int 200)) .nil))) .nil))))))
def wiT : IT := .seq (.bin .add (.var 8) (.lst (.cons (.call "_law_draw" (.pool 1 (.cons (.bin .add (.ix (.var 5) (.cst (.int 0))) (.cst (.int 1))) .nil))) .nil)))
def wsC : IE := .not (.call "_law_same" (.cons (.lst (.cons (.fld "WovenTasks" "weaving" (.ix (.var 4) (.cst (.int 0)))) (.cons (.fld "WovenTasks" "weaving" (.ix (.var 4) (.cst (.int 1)))) .nil))) (.cons (.lst (.cons (.bi .tuple (.cons (.ix (.var 2) (.cst (.int 0))) .nil)) (.cons (.bi .tuple (.cons (.ix (.var 2) (.cst (.int 1))) .nil)) .nil))) .nil)))
def woB : ISs := .cons (.set 7 (.call "_law_tasks" (.pool 1 .nil))) (.cons (.set 8 wcE) (.cons (.forr (.one 9) wiT wkB) (.cons (.iff wsC (.cons (.ret (.cst (.bl false))) .nil) .nil) .nil)))
theorem law_eq : I_law = ⟨10, .cons (.set 2 (.lst (.cons (.call "_law_numbers" (.pool 1 .nil)) (.cons (.call "_law_numbers" (.pool 1 .nil)) .nil))))
  (.cons (.own 3 (.bi .list (.cons (.ix (.var 2) (.cst (.int 0))) .nil)))
  (.cons (.set 4 (.lst (.cons (.lento [3] (.call "WovenTasks" (.cons (.bin .add (.tup (.cons (.var 3) .nil)) (.tup .nil)) .nil))) (.cons (.call "WovenTasks" (.cons (.bin .add (.tup (.cons (.bi .tuple (.cons (.ix (.var 2) (.cst (.int 1))) .nil)) .nil)) (.tup .nil)) .nil)) (.cons (.con (mkOb "WaitTasks" [] [])) .nil)))))
  (.cons (.app 3 (.cst (.int 7)))
  (.cons (.oset 3 0 (.bin .add (.oix 3 (.cst (.int 0))) (.cst (.int 1))))
  (.cons (.set 5 (.lst (.cons (.bi .len (.cons (.ix (.var 2) (.cst (.int 0))) .nil)) (.cons (.bi .len (.cons (.ix (.var 2) (.cst (.int 1))) .nil)) .nil))))
  (.cons (.forr (.one 6) (.rng1 (.cst (.int 3))) woB)
  (.cons (.ret (.cst (.bl true))) .nil)))))))⟩ := rfl
theorem fld_w (ws : List Int) : fldD "WovenTasks" "weaving" (wvO ws) = some (.tuple (isD ws)) := by
  have e : ("weaving" : Str) ≠ isaN := by decide +kernel
  unfold fldD
  rw [if_neg e]
  show (if ("WovenTasks" : Str) = "WovenTasks" then lkD "weaving" [(.str "weaving", .tuple (isD ws))] else none) = _
  rw [if_pos rfl]
  unfold lkD
  simp
theorem wk_loop {cl : Cl} (F : Facts cl) (w0 w1 : List Int) (R : List Pth) (Q : List (Pth × Pth)) (e : Pth) (t : TR R Q e) (ns : List Int) (hn : ∀ n ∈ ns, 0 ≤ n) (x3 x5 x6 x8 x9 : Sl) (st : Pl) :
    ∃ y9, forG (fb cl (.one 9) wkB) (isD ns) [.no, .pl, .im (woD w0 w1), x3, .im (tsD w0 w1), x5, x6, .im (trD R Q e), x8, x9] st = some (.nx [.no, .pl, .im (woD w0 w1), x3, .im (tsD w0 w1), x5, x6, .im (trD R Q e), x8, y9] st) := by
  obtain ⟨env', st', e1, y9, rfl, rfl⟩ := forG_nx (f := fb cl (.one 9) wkB) (fun _ env s => ∃ y9, env = [.no, .pl, .im (woD w0 w1), x3, .im (tsD w0 w1), x5, x6, .im (trD R Q e), x8, y9] ∧ s = st) (isD ns) [.no, .pl, .im (woD w0 w1), x3, .im (tsD w0 w1), x5, x6, .im (trD R Q e), x8, x9] st ⟨_, rfl, rfl⟩
    (fun i d env s hi ⟨y9, q, q2⟩ => by
      subst q
      subst q2
      obtain ⟨n, hm, rfl⟩ := List.mem_map.mp (List.mem_of_getElem? hi)
      have g := F.picked w0 w1 R Q e n s t t.ln (hn n hm)
      refine ⟨[.no, .pl, .im (woD w0 w1), x3, .im (tsD w0 w1), x5, x6, .im (trD R Q e), x8, .im (.int n)], s, ?_, _, rfl, rfl⟩
      generalize woD w0 w1 = W at *
      generalize tsD w0 w1 = T at *
      generalize trD R Q e = X at *
      unfold wkB
      simp [fb_eq, sgD, g])
  exact ⟨y9, e1⟩
theorem wo_step {cl : Cl} (F : Facts cl) {C : List (List D)} (i : Nat) (w0 w1 : List Int) (l0 : w0.length ≤ 60) (l1 : w1.length ≤ 60) (x3 x6 x7 x8 x9 : Sl) (st : Pl) (h : Pok C st) :
    ∃ y7 y8 y9 st', fb cl (.one 6) woB (.int i) [.no, .pl, .im (woD w0 w1), x3, .im (tsD w0 w1), .im (.list [.int w0.length, .int w1.length]), x6, x7, x8, x9] st = some (.nx [.no, .pl, .im (woD w0 w1), x3, .im (tsD w0 w1), .im (.list [.int w0.length, .int w1.length]), .im (.int i), y7, y8, y9] st') ∧ Pok C st' := by
  obtain ⟨R, Q, e, s1, e1, t, p1⟩ := F.tasks st h
  obtain ⟨a, s2, e2, a0, a1, p2⟩ := F.draw 200 s1 p1 (by decide) (by decide)
  obtain ⟨b, s3, e3, b0, b1, p3⟩ := F.draw ((w0.length : Int) + 1) s2 p2 (by omega) (by omega)
  let mx : Int → Int := fun x => if x > 0 then x else 0
  have mx0 : ∀ x, 0 ≤ mx x := fun x => by
    show 0 ≤ (if x > 0 then x else 0)
    split <;> omega
  let ns : List Int := [0, mx ((w0.length : Int) - 1), w0.length, mx ((w1.length : Int) - 1), w1.length, a]
  obtain ⟨y9, lp⟩ := wk_loop F w0 w1 R Q e t (ns ++ [b]) (fun n hn => by
    simp only [ns, List.cons_append, List.nil_append, List.mem_cons, List.not_mem_nil, or_false] at hn
    rcases hn with rfl | rfl | rfl | rfl | rfl | rfl | rfl
    · exact Int.le_refl 0
    · exact mx0 _
    · omega
    · exact mx0 _
    · omega
    · exact a0
    · exact b0) x3 (.im (.list [.int w0.length, .int w1.length])) (.im (.int i)) (.im (.list (isD ns))) x9 s3
  have m1 : (1 : Nat) ≤ most := by decide
  have m2 : (2 : Nat) ≤ most := by decide
  have m6 : (6 : Nat) ≤ most := by decide
  have sb : ∀ x y : Int, binD .sub (.int x) (.int y) = some (.int (x - y)) := fun _ _ => rfl
  have i0 : ixD (.list [.int w0.length, .int w1.length]) (.int 0) = some (.int w0.length) := rfl
  have i1 : ixD (.list [.int w0.length, .int w1.length]) (.int 1) = some (.int w1.length) := rfl
  have ad : binD .add (.list (isD ns)) (.list [.int b]) = some (.list (isD (ns ++ [b]))) := by
    show (if (isD ns).length + 1 ≤ most then some (PyData.list (isD ns ++ [.int b])) else none) = _
    rw [if_pos (by show 6 + 1 ≤ most; decide), isD_snoc]
  have wc : ∀ x6 x7 x8, ev cl wcE [.no, .pl, .im (woD w0 w1), x3, .im (tsD w0 w1), .im (.list [.int w0.length, .int w1.length]), x6, x7, x8, x9] s1 = some (.list (isD ns), s2) := fun x6 x7 x8 => by
    have e0 : isD ns = [.int 0, .int (mx ((w0.length : Int) - 1)), .int w0.length, .int (mx ((w1.length : Int) - 1)), .int w1.length, .int a] := rfl
    rw [e0]
    show _ = some (PyData.list [.int 0, .int (if (w0.length : Int) - 1 > 0 then (w0.length : Int) - 1 else 0), .int w0.length, .int (if (w1.length : Int) - 1 > 0 then (w1.length : Int) - 1 else 0), .int w1.length, .int a], s2)
    generalize woD w0 w1 = W at *
    generalize tsD w0 w1 = T at *
    unfold wcE
    simp [Cst.d, i0, i1, sb, e2, m6]
  have pl : binD .add (.int w0.length) (.int 1) = some (.int ((w0.length : Int) + 1)) := rfl
  have wi : ∀ x6 x7, ei cl wiT [.no, .pl, .im (woD w0 w1), x3, .im (tsD w0 w1), .im (.list [.int w0.length, .int w1.length]), x6, x7, .im (.list (isD ns)), x9] s2 = some (isD (ns ++ [b]), s3) := fun x6 x7 => by
    generalize isD (ns ++ [b]) = Z at *
    generalize isD ns = Y at *
    generalize woD w0 w1 = W at *
    generalize tsD w0 w1 = T at *
    unfold wiT
    simp [Cst.d, i0, pl, e3, m1, ad, itS]
  have q0 : ixD (tsD w0 w1) (.int 0) = some (wvO w0) := rfl
  have q1 : ixD (tsD w0 w1) (.int 1) = some (wvO w1) := rfl
  have r0 : ixD (woD w0 w1) (.int 0) = some (.list (isD w0)) := rfl
  have r1 : ixD (woD w0 w1) (.int 1) = some (.list (isD w1)) := rfl
  have f0 := fld_w w0
  have f1 := fld_w w1
  have tl : ∀ xs : List D, biD .tuple [.list xs] = some (.tuple xs) := fun _ => rfl
  have sm := F.same w0 w1 s3 (by omega) (by omega)
  refine ⟨.im (trD R Q e), .im (.list (isD ns)), y9, s3, ?_, p3⟩
  rw [fb_eq]
  show evSs cl woB [.no, .pl, .im (woD w0 w1), x3, .im (tsD w0 w1), .im (.list [.int w0.length, .int w1.length]), .im (.int i), x7, x8, x9] st = _
  unfold woB
  refine sq_nx (e1 := [.no, .pl, .im (woD w0 w1), x3, .im (tsD w0 w1), .im (.list [.int w0.length, .int w1.length]), .im (.int i), .im (trD R Q e), x8, x9]) (st1 := s1) (set_run (by simp [e1])) ?_
  refine sq_nx (e1 := [.no, .pl, .im (woD w0 w1), x3, .im (tsD w0 w1), .im (.list [.int w0.length, .int w1.length]), .im (.int i), .im (trD R Q e), .im (.list (isD ns)), x9]) (st1 := s2) (set_run (wc _ _ _)) ?_
  refine sq_nx (e1 := [.no, .pl, .im (woD w0 w1), x3, .im (tsD w0 w1), .im (.list [.int w0.length, .int w1.length]), .im (.int i), .im (trD R Q e), .im (.list (isD ns)), y9]) (st1 := s3) ?_ ?_
  · rw [q_evS_forr, wi]
    exact lp
  refine sq_iff (st1 := s3) ?_ (by simp)
  generalize woD w0 w1 = W at *
  generalize tsD w0 w1 = T at *
  generalize wvO w0 = O0 at *
  generalize wvO w1 = O1 at *
  generalize isD w0 = L0 at *
  generalize isD w1 = L1 at *
  unfold wsC
  simp [Cst.d, q0, q1, r0, r1, f0, f1, tl, m2, sm]
theorem true_ (ns0 : List Int) (h0 : ns0.length ≤ 63) : ∃ st, lawRun (tb depth) I_law.n I_law.body ns0 = some (.rt (.bool true) st) := by
  have F := t_facts
  generalize tb depth = cl at F
  obtain ⟨w0, s1, e1, l0, p1⟩ := F.numbers (pl0 ns0) (pok0 ns0)
  obtain ⟨w1, s2, e2, l1, p2⟩ := F.numbers s1 p1
  have ma := (F.made w0 s2).1
  have mb := (F.made w1 s2).2
  have m0 : (0 : Nat) ≤ most := by decide
  have m1 : (1 : Nat) ≤ most := by decide
  have m2 : (2 : Nat) ≤ most := by decide
  have m3 : (3 : Nat) ≤ most := by decide
  have li : ∀ xs : List D, biD .list [.list xs] = some (.list xs) := fun _ => rfl
  have tl : ∀ xs : List D, biD .tuple [.list xs] = some (.tuple xs) := fun _ => rfl
  have r0 : ixD (woD w0 w1) (.int 0) = some (.list (isD w0)) := rfl
  have r1 : ixD (woD w0 w1) (.int 1) = some (.list (isD w1)) := rfl
  have ad : ∀ x : D, binD .add (.tuple [x]) (.tuple []) = some (.tuple [x]) := fun x => by
    show (if 1 + 0 ≤ most then some (PyData.tuple ([x] ++ [])) else none) = _
    rw [if_pos (by decide)]
    rfl
  have lw : (isD w0).length = w0.length := by simp [isD]
  have lt : (isD w0).length < most := Nat.lt_of_lt_of_le (by omega : (isD w0).length < 1000) (by decide)
  obtain ⟨z, hz⟩ : ∃ z : Int, ixD (.list (isD w0 ++ [PyData.int 7])) (.int 0) = some (.int z) := by
    cases w0 with
    | nil => exact ⟨7, rfl⟩
    | cons x w =>
      refine ⟨x, ?_⟩
      show atI (PyData.int x :: (isD w ++ [PyData.int 7])) 0 = _
      rw [atI_of (Int.le_refl 0) (by simp only [List.length_cons]; omega)]
      rfl
  have zp : binD .add (.int z) (.int 1) = some (.int (z + 1)) := rfl
  have g3 : rngD 0 3 = some ((List.range 3).map fun (k : Nat) => PyData.int (k : Int)) := rngD_nat (n := 3) (by decide) (by decide)
  have b0 : biD .len [.list (isD w0)] = some (.int (w0.length : Int)) := by
    show some (PyData.int ((isD w0).length : Int)) = _
    rw [lw]
  have b1 : biD .len [.list (isD w1)] = some (.int (w1.length : Int)) := by
    show some (PyData.int ((isD w1).length : Int)) = _
    simp [isD]
  obtain ⟨env', st', e3, x6, x7, x8, x9, rfl, p3⟩ := forG_nx (f := fb cl (.one 6) woB) (fun _ env s => ∃ x6 x7 x8 x9, env = [.no, .pl, .im (woD w0 w1), .ow ((isD w0 ++ [PyData.int 7]).set 0 (PyData.int (z + 1))), .im (tsD w0 w1), .im (.list [.int w0.length, .int w1.length]), x6, x7, x8, x9] ∧ Pok [] s) ((List.range 3).map fun (k : Nat) => PyData.int (k : Int)) [.no, .pl, .im (woD w0 w1), .ow ((isD w0 ++ [PyData.int 7]).set 0 (PyData.int (z + 1))), .im (tsD w0 w1), .im (.list [.int w0.length, .int w1.length]), .no, .no, .no, .no] s2 ⟨_, _, _, _, rfl, p2⟩
    (fun i d env s hi ⟨x6, x7, x8, x9, q, p⟩ => by
      subst q
      obtain ⟨_, rfl⟩ := rng_at hi
      obtain ⟨y7, y8, y9, s4, e4, p4⟩ := wo_step F i w0 w1 l0 l1 (.ow ((isD w0 ++ [PyData.int 7]).set 0 (PyData.int (z + 1)))) x6 x7 x8 x9 s p
      exact ⟨_, s4, e4, _, _, _, _, rfl, p4⟩)
  refine ⟨st', ?_⟩
  rw [law_eq]
  show evSs cl _ [.no, .pl, .no, .no, .no, .no, .no, .no, .no, .no] (pl0 ns0) = _
  refine sq_nx (e1 := [.no, .pl, .im (woD w0 w1), .no, .no, .no, .no, .no, .no, .no]) (st1 := s2) (set_run (by
    unfold woD
    simp [e1, e2, m2])) ?_
  refine sq_nx (e1 := [.no, .pl, .im (woD w0 w1), .ow (isD w0), .no, .no, .no, .no, .no, .no]) (st1 := s2) (by
    generalize woD w0 w1 = W at *
    simp [Cst.d, r0, li]) ?_
  refine sq_nx (e1 := [.no, .pl, .im (woD w0 w1), .ow (isD w0), .im (tsD w0 w1), .no, .no, .no, .no, .no]) (st1 := s2) ?_ ?_
  · have fr : frzE [.no, .pl, .im (woD w0 w1), .ow (isD w0), .no, .no, .no, .no, .no, .no] [3] = [.no, .pl, .im (woD w0 w1), .im (.list (isD w0)), .no, .no, .no, .no, .no, .no] := rfl
    have nl := noL_w w0
    have tt : ∀ xs : List D, biD .tuple [.tuple xs] = some (.tuple xs) := fun _ => rfl
    refine set_run ?_
    unfold tsD wtO
    generalize woD w0 w1 = W at *
    generalize wvO w0 = O0 at *
    generalize wvO w1 = O1 at *
    generalize isD w0 = L0 at *
    generalize isD w1 = L1 at *
    simp [Cst.d, fr, ma, mb, nl, r0, r1, tl, m0, m1, m3, ad]
  refine sq_nx (e1 := [.no, .pl, .im (woD w0 w1), .ow (isD w0 ++ [PyData.int 7]), .im (tsD w0 w1), .no, .no, .no, .no, .no]) (st1 := s2) (by simp [Cst.d, lt]) ?_
  refine sq_nx (e1 := [.no, .pl, .im (woD w0 w1), .ow ((isD w0 ++ [PyData.int 7]).set 0 (PyData.int (z + 1))), .im (tsD w0 w1), .no, .no, .no, .no, .no]) (st1 := s2) ?_ ?_
  · have ln : 0 < (isD w0 ++ [PyData.int 7]).length := by simp
    generalize isD w0 ++ [PyData.int 7] = Y at *
    simp [Cst.d, hz, zp, ln]
  refine sq_nx (e1 := [.no, .pl, .im (woD w0 w1), .ow ((isD w0 ++ [PyData.int 7]).set 0 (PyData.int (z + 1))), .im (tsD w0 w1), .im (.list [.int w0.length, .int w1.length]), .no, .no, .no, .no]) (st1 := s2) (set_run (by
    generalize woD w0 w1 = W at *
    simp [Cst.d, r0, r1, b0, b1, m2])) ?_
  refine sq_nx (e1 := [.no, .pl, .im (woD w0 w1), .ow ((isD w0 ++ [PyData.int 7]).set 0 (PyData.int (z + 1))), .im (tsD w0 w1), .im (.list [.int w0.length, .int w1.length]), x6, x7, x8, x9]) (st1 := st') ?_ (sq_rt (ret_run rfl))
  rw [q_evS_forr]
  have : ∀ env s, ei cl (.rng1 (.cst (.int 3))) env s = some ((List.range 3).map fun (k : Nat) => PyData.int (k : Int), s) := fun env s => by simp [Cst.d, g3]
  rw [this]
  exact e3
end K24

set_option Elab.async false
set_option linter.all false
set_option maxRecDepth 100000
set_option maxHeartbeats 0
namespace K24
open PySem PySem.Spec PyProof.Rows L2 Ip
section
variable {P : Program} {w : World} {K : PySem.W.Frag} {mg : Str → Option Value} {base : Heap}
abbrev its : List Xt := [Xt.nw "WaitTasks"]
abbrev its0 : List Xt := [Xt.nw "WaitTasks"]
abbrev mnames : List (Str × Str × Str) := [("WovenTasks.pick", "WovenTasks", "pick"), ("WaitTasks.pick", "WaitTasks", "pick")]
abbrev knames : List Str := ["WovenTasks"]
structure All (P : Program) (w : World) (K : PySem.W.Frag) (mg : Str → Option Value) (base : Heap) : Prop where
  h_pick_at : Hv K mg "pick_at" (top 1) ["picks", "at"]
  h_law_mixed : Hv K mg "_law_mixed" (top 7) ["_law_cell", "_law_turn", "_law_limit"]
  h_law_draw : Hv K mg "_law_draw" (top 8) ["_law_pool_here", "_law_limit"]
  h_law_is_int : Hv K mg "_law_is_int" (top 9) ["_law_thing"]
  h_law_same : Hv K mg "_law_same" (top 10) ["_law_mine", "_law_due"]
  h_law_numbers : Hv K mg "_law_numbers" (top 11) ["_law_pool_here"]
  h_law_tasks : Hv K mg "_law_tasks" (top 12) ["_law_pool_here"]
  h_law_waits : Hv K mg "_law_waits" (top 13) ["_law_pairs"]
  h_law_chosen : Hv K mg "_law_chosen" (top 14) ["_law_ready", "_law_woven", "_law_count"]
  h_law_picked : Hv K mg "_law_picked" (top 15) ["_law_tasks_here", "_law_woven", "_law_world", "_law_count"]
  b_all : mg "all" = none
  b_bool : mg "bool" = none
  b_int : mg "int" = none
  b_isinstance : mg "isinstance" = none
  b_len : mg "len" = none
  b_list : mg "list" = none
  b_max : mg "max" = none
  b_range : mg "range" = none
  b_sorted : mg "sorted" = none
  b_str : mg "str" = none
  b_super : mg "super" = none
  b_tuple : mg "tuple" = none
  h_WovenTasks_pick : HvM K "WovenTasks" "pick" "WovenTasks.pick" (meth 3 1) ["self", "count", "ready", "waits"]
  h_WaitTasks_pick : HvM K "WaitTasks" "pick" "WaitTasks.pick" (meth 4 0) ["self", "count", "ready", "waits"]
  h_WovenTasks : HvP K "WovenTasks" "WovenTasks.__init__" (meth 3 0) ["self", "weaving"]
  clf : ∀ q ∈ oc, ClF K mg q.1 q.2
  itr : ∀ cl, ∀ q ∈ its0, ItAt mg es P w K base cl 1 q
  er : ∀ k : Nat, ∀ q ∈ es, ∃ C, ErrFo P w K mg base (k + 2) q.1 q.2 C
  ef : ∀ Γ : Gam, Γ.es = es → Γ.ks = ks → Γ.ts = ts → Γ.gs = gs → ErrFacts Γ K mg
def names : List Str := [Str.ofString "pick_at", Str.ofString "_law_mixed", Str.ofString "_law_draw", Str.ofString "_law_is_int", Str.ofString "_law_same", Str.ofString "_law_numbers", Str.ofString "_law_tasks", Str.ofString "_law_waits", Str.ofString "_law_chosen", Str.ofString "_law_picked"]
def inames : List Str := []
def fnames : List Str := []
def xnames : List Str := []
def hnames : List Str := []
def lnames : List Str := []
structure Beh (P : Program) (w : World) (K : PySem.W.Frag) (mg : Str → Option Value) (base : Heap) (n : Nat) : Prop where
  fo : ∀ f ∈ names, Fo P w K mg base (8 * n + 8) (tb n) f
  fg : ∀ f ∈ xnames, FoG P w K mg base (8 * n + 8) es (tb n) f
  fh : ∀ f ∈ hnames, FoH P w K mg base (8 * n + 8) (tb n) f
  fl : ∀ f ∈ lnames, FoL P w K mg base (8 * n + 8) (tb n) f
  fi : ∀ f ∈ inames, FoI P w K mg base (8 * n + 8) (tb n) f
  ff : ∀ f ∈ fnames, FoR P w K mg base (8 * n + 8) (tb n) f
  fd : ∀ q ∈ df, ∃ fa fd ps, FnOk P w K mg base (L2N.CX P w) (8 * n + 8) fa fd ps (spG mg es K (tb n) q.1) ∧ mg q.1 = some (.ref fa) ∧ PySem.W.keepIn K (.ref fa) = true ∧ BindsO K fd ps q.2.1 q.2.2
  ms : ∀ q ∈ mnames, MsAt mg es P w K base (tb n) oc (8 * n + 2) q
  mks : ∀ c ∈ knames, MkAt mg es P w K base (tb n) (8 * n + 2) c
  it : ∀ q ∈ its, ItAt mg es P w K base (tb n) (8 * n + 5) q
theorem av_pick_at (A : All P w K mg base) {n : Nat} (b : Beh P w K mg base n) : Av P w K mg base (8 * n + 8) (g_pick_at K (tb n)) where
  fn := fun _ g hg => b.fo g (by
    cases hg)
  fnh := fun g hg => b.fh g (by
    cases hg)
  bl := fun g hg => by
    simp only [List.mem_cons, List.not_mem_nil, or_false] at hg
    subst hg
    exact A.b_len
  xn := fun _ g hg => b.fg g (by
    cases hg)
  er := fun _ q hq => A.er (8 * n + 6) q hq
  df := fun _ q hq => b.fd q hq
  ef := A.ef _ rfl rfl rfl rfl
  ob := fun _ => ⟨A.clf, fun q hq => ⟨8 * n + 2, b.ms q (by
    cases hq), by omega⟩, fun q hq => ⟨8 * n + 2, b.mks q (by
    cases hq), by omega⟩, fun q hq => ⟨8 * n + 5, b.it q (by
    cases hq), by omega⟩⟩
theorem av_law_mixed (A : All P w K mg base) {n : Nat} (b : Beh P w K mg base n) : Av P w K mg base (8 * n + 8) (g_law_mixed K (tb n)) where
  fn := fun _ g hg => b.fo g (by
    cases hg)
  fnh := fun g hg => b.fh g (by
    cases hg)
  bl := fun g hg => by
    simp only [List.mem_cons, List.not_mem_nil, or_false] at hg
    subst hg
    exact A.b_int
  xn := fun _ g hg => b.fg g (by
    cases hg)
  er := fun _ q hq => A.er (8 * n + 6) q hq
  df := fun _ q hq => b.fd q hq
  ef := A.ef _ rfl rfl rfl rfl
  ob := fun _ => ⟨A.clf, fun q hq => ⟨8 * n + 2, b.ms q (by
    cases hq), by omega⟩, fun q hq => ⟨8 * n + 2, b.mks q (by
    cases hq), by omega⟩, fun q hq => ⟨8 * n + 5, b.it q (by
    cases hq), by omega⟩⟩
theorem av_law_draw (A : All P w K mg base) {n : Nat} (b : Beh P w K mg base n) : Av P w K mg base (8 * n + 8) (g_law_draw K (tb n)) where
  fn := fun _ g hg => b.fo g (by
    simp only [List.mem_cons, List.not_mem_nil, or_false] at hg
    subst hg
    all_goals simp [names])
  fnh := fun g hg => b.fh g (by
    cases hg)
  bl := fun g hg => by
    simp only [List.mem_cons, List.not_mem_nil, or_false] at hg
    rcases hg with rfl | rfl
    · exact A.b_int
    · exact A.b_len
  xn := fun _ g hg => b.fg g (by
    cases hg)
  er := fun _ q hq => A.er (8 * n + 6) q hq
  df := fun _ q hq => b.fd q hq
  ef := A.ef _ rfl rfl rfl rfl
  ob := fun _ => ⟨A.clf, fun q hq => ⟨8 * n + 2, b.ms q (by
    cases hq), by omega⟩, fun q hq => ⟨8 * n + 2, b.mks q (by
    cases hq), by omega⟩, fun q hq => ⟨8 * n + 5, b.it q (by
    cases hq), by omega⟩⟩
theorem av_law_is_int (A : All P w K mg base) {n : Nat} (b : Beh P w K mg base n) : Av P w K mg base (8 * n + 8) (g_law_is_int K (tb n)) where
  fn := fun _ g hg => b.fo g (by
    cases hg)
  fnh := fun g hg => b.fh g (by
    cases hg)
  bl := fun g hg => by
    simp only [List.mem_cons, List.not_mem_nil, or_false] at hg
    rcases hg with rfl | rfl | rfl
    · exact A.b_isinstance
    · exact A.b_int
    · exact A.b_bool
  xn := fun _ g hg => b.fg g (by
    cases hg)
  er := fun _ q hq => A.er (8 * n + 6) q hq
  df := fun _ q hq => b.fd q hq
  ef := A.ef _ rfl rfl rfl rfl
  ob := fun _ => ⟨A.clf, fun q hq => ⟨8 * n + 2, b.ms q (by
    cases hq), by omega⟩, fun q hq => ⟨8 * n + 2, b.mks q (by
    cases hq), by omega⟩, fun q hq => ⟨8 * n + 5, b.it q (by
    cases hq), by omega⟩⟩
theorem av_law_same (A : All P w K mg base) {n : Nat} (b : Beh P w K mg base n) : Av P w K mg base (8 * n + 8) (g_law_same K (tb n)) where
  fn := fun _ g hg => b.fo g (by
    simp only [List.mem_cons, List.not_mem_nil, or_false] at hg
    rcases hg with rfl | rfl
    all_goals simp [names])
  fnh := fun g hg => b.fh g (by
    cases hg)
  bl := fun g hg => by
    simp only [List.mem_cons, List.not_mem_nil, or_false] at hg
    rcases hg with rfl | rfl | rfl | rfl | rfl | rfl | rfl | rfl
    · exact A.b_range
    · exact A.b_len
    · exact A.b_isinstance
    · exact A.b_tuple
    · exact A.b_list
    · exact A.b_str
    · exact A.b_int
    · exact A.b_bool
  xn := fun _ g hg => b.fg g (by
    cases hg)
  er := fun _ q hq => A.er (8 * n + 6) q hq
  df := fun _ q hq => b.fd q hq
  ef := A.ef _ rfl rfl rfl rfl
  ob := fun _ => ⟨A.clf, fun q hq => ⟨8 * n + 2, b.ms q (by
    cases hq), by omega⟩, fun q hq => ⟨8 * n + 2, b.mks q (by
    cases hq), by omega⟩, fun q hq => ⟨8 * n + 5, b.it q (by
    cases hq), by omega⟩⟩
theorem av_law_numbers (A : All P w K mg base) {n : Nat} (b : Beh P w K mg base n) : Av P w K mg base (8 * n + 8) (g_law_numbers K (tb n)) where
  fn := fun _ g hg => b.fo g (by
    simp only [List.mem_cons, List.not_mem_nil, or_false] at hg
    subst hg
    all_goals simp [names])
  fnh := fun g hg => b.fh g (by
    cases hg)
  bl := fun g hg => by
    simp only [List.mem_cons, List.not_mem_nil, or_false] at hg
    subst hg
    exact A.b_range
  xn := fun _ g hg => b.fg g (by
    cases hg)
  er := fun _ q hq => A.er (8 * n + 6) q hq
  df := fun _ q hq => b.fd q hq
  ef := A.ef _ rfl rfl rfl rfl
  ob := fun _ => ⟨A.clf, fun q hq => ⟨8 * n + 2, b.ms q (by
    cases hq), by omega⟩, fun q hq => ⟨8 * n + 2, b.mks q (by
    cases hq), by omega⟩, fun q hq => ⟨8 * n + 5, b.it q (by
    cases hq), by omega⟩⟩
theorem av_law_tasks (A : All P w K mg base) {n : Nat} (b : Beh P w K mg base n) : Av P w K mg base (8 * n + 8) (g_law_tasks K (tb n)) where
  fn := fun _ g hg => b.fo g (by
    simp only [List.mem_cons, List.not_mem_nil, or_false] at hg
    subst hg
    all_goals simp [names])
  fnh := fun g hg => b.fh g (by
    cases hg)
  bl := fun g hg => by
    simp only [List.mem_cons, List.not_mem_nil, or_false] at hg
    rcases hg with rfl | rfl | rfl
    · exact A.b_sorted
    · exact A.b_range
    · exact A.b_len
  xn := fun _ g hg => b.fg g (by
    cases hg)
  er := fun _ q hq => A.er (8 * n + 6) q hq
  df := fun _ q hq => b.fd q hq
  ef := A.ef _ rfl rfl rfl rfl
  ob := fun _ => ⟨A.clf, fun q hq => ⟨8 * n + 2, b.ms q (by
    cases hq), by omega⟩, fun q hq => ⟨8 * n + 2, b.mks q (by
    cases hq), by omega⟩, fun q hq => ⟨8 * n + 5, b.it q (by
    cases hq), by omega⟩⟩
theorem av_law_waits (A : All P w K mg base) {n : Nat} (b : Beh P w K mg base n) : Av P w K mg base (8 * n + 8) (g_law_waits K (tb n)) where
  fn := fun _ g hg => b.fo g (by
    cases hg)
  fnh := fun g hg => b.fh g (by
    cases hg)
  bl := fun g hg => by
    cases hg
  xn := fun _ g hg => b.fg g (by
    cases hg)
  er := fun _ q hq => A.er (8 * n + 6) q hq
  df := fun _ q hq => b.fd q hq
  ef := A.ef _ rfl rfl rfl rfl
  ob := fun _ => ⟨A.clf, fun q hq => ⟨8 * n + 2, b.ms q (by
    cases hq), by omega⟩, fun q hq => ⟨8 * n + 2, b.mks q (by
    cases hq), by omega⟩, fun q hq => ⟨8 * n + 5, b.it q (by
    cases hq), by omega⟩⟩
theorem av_law_chosen (A : All P w K mg base) {n : Nat} (b : Beh P w K mg base n) : Av P w K mg base (8 * n + 8) (g_law_chosen K (tb n)) where
  fn := fun _ g hg => b.fo g (by
    cases hg)
  fnh := fun g hg => b.fh g (by
    cases hg)
  bl := fun g hg => by
    simp only [List.mem_cons, List.not_mem_nil, or_false] at hg
    rcases hg with rfl | rfl
    · exact A.b_int
    · exact A.b_len
  xn := fun _ g hg => b.fg g (by
    cases hg)
  er := fun _ q hq => A.er (8 * n + 6) q hq
  df := fun _ q hq => b.fd q hq
  ef := A.ef _ rfl rfl rfl rfl
  ob := fun _ => ⟨A.clf, fun q hq => ⟨8 * n + 2, b.ms q (by
    cases hq), by omega⟩, fun q hq => ⟨8 * n + 2, b.mks q (by
    cases hq), by omega⟩, fun q hq => ⟨8 * n + 5, b.it q (by
    cases hq), by omega⟩⟩
theorem av_law_picked (A : All P w K mg base) {n : Nat} (b : Beh P w K mg base n) : Av P w K mg base (8 * n + 8) (g_law_picked K (tb n)) where
  fn := fun _ g hg => b.fo g (by
    simp only [List.mem_cons, List.not_mem_nil, or_false] at hg
    rcases hg with rfl | rfl | rfl
    all_goals simp [names])
  fnh := fun g hg => b.fh g (by
    cases hg)
  bl := fun g hg => by
    simp only [List.mem_cons, List.not_mem_nil, or_false] at hg
    rcases hg with rfl | rfl | rfl
    · exact A.b_all
    · exact A.b_len
    · exact A.b_list
  xn := fun _ g hg => b.fg g (by
    cases hg)
  er := fun _ q hq => A.er (8 * n + 6) q hq
  df := fun _ q hq => b.fd q hq
  ef := A.ef _ rfl rfl rfl rfl
  ob := fun _ => ⟨A.clf, fun q hq => ⟨8 * n + 2, b.ms q (by
    simp only [List.mem_cons, List.not_mem_nil, or_false] at hq
    rcases hq with rfl | rfl
    all_goals simp [mnames]), by omega⟩, fun q hq => ⟨8 * n + 2, b.mks q (by
    cases hq), by omega⟩, fun q hq => ⟨8 * n + 5, b.it q (by
    cases hq), by omega⟩⟩
theorem av_WovenTasks_pick (A : All P w K mg base) {n : Nat} (b : Beh P w K mg base n) : Av P w K mg base (8 * n + 8) (g_WovenTasks_pick K (tb n)) where
  fn := fun _ g hg => b.fo g (by
    simp only [List.mem_cons, List.not_mem_nil, or_false] at hg
    subst hg
    all_goals simp [names])
  fnh := fun g hg => b.fh g (by
    cases hg)
  bl := fun g hg => by
    simp only [List.mem_cons, List.not_mem_nil, or_false] at hg
    subst hg
    exact A.b_len
  xn := fun _ g hg => b.fg g (by
    cases hg)
  er := fun _ q hq => A.er (8 * n + 6) q hq
  df := fun _ q hq => b.fd q hq
  ef := A.ef _ rfl rfl rfl rfl
  ob := fun _ => ⟨A.clf, fun q hq => ⟨8 * n + 2, b.ms q (by
    cases hq), by omega⟩, fun q hq => ⟨8 * n + 2, b.mks q (by
    cases hq), by omega⟩, fun q hq => ⟨8 * n + 5, b.it q (by
    cases hq), by omega⟩⟩
theorem av_WaitTasks_pick (A : All P w K mg base) {n : Nat} (b : Beh P w K mg base n) : Av P w K mg base (8 * n + 8) (g_WaitTasks_pick K (tb n)) where
  fn := fun _ g hg => b.fo g (by
    cases hg)
  fnh := fun g hg => b.fh g (by
    cases hg)
  bl := fun g hg => by
    cases hg
  xn := fun _ g hg => b.fg g (by
    cases hg)
  er := fun _ q hq => A.er (8 * n + 6) q hq
  df := fun _ q hq => b.fd q hq
  ef := A.ef _ rfl rfl rfl rfl
  ob := fun _ => ⟨A.clf, fun q hq => ⟨8 * n + 2, b.ms q (by
    cases hq), by omega⟩, fun q hq => ⟨8 * n + 2, b.mks q (by
    cases hq), by omega⟩, fun q hq => ⟨8 * n + 5, b.it q (by
    cases hq), by omega⟩⟩
theorem av_WovenTasks (A : All P w K mg base) {n : Nat} (b : Beh P w K mg base n) : Av P w K mg base (8 * n + 8) (g_WovenTasks K (tb n)) where
  fn := fun _ g hg => b.fo g (by
    cases hg)
  fnh := fun g hg => b.fh g (by
    cases hg)
  bl := fun g hg => by
    simp only [List.mem_cons, List.not_mem_nil, or_false] at hg
    subst hg
    exact A.b_tuple
  xn := fun _ g hg => b.fg g (by
    cases hg)
  er := fun _ q hq => A.er (8 * n + 6) q hq
  df := fun _ q hq => b.fd q hq
  ef := A.ef _ rfl rfl rfl rfl
  ob := fun _ => ⟨A.clf, fun q hq => ⟨8 * n + 2, b.ms q (by
    cases hq), by omega⟩, fun q hq => ⟨8 * n + 2, b.mks q (by
    cases hq), by omega⟩, fun q hq => ⟨8 * n + 5, b.it q (by
    cases hq), by omega⟩⟩
theorem av_law (A : All P w K mg base) {n : Nat} (b : Beh P w K mg base n) : Av P w K mg base (8 * n + 8) (g_law K (tb n)) where
  fn := fun _ g hg => b.fo g (by
    simp only [List.mem_cons, List.not_mem_nil, or_false] at hg
    rcases hg with rfl | rfl | rfl | rfl | rfl
    all_goals simp [names])
  fnh := fun g hg => b.fh g (by
    cases hg)
  bl := fun g hg => by
    simp only [List.mem_cons, List.not_mem_nil, or_false] at hg
    rcases hg with rfl | rfl | rfl | rfl | rfl
    · exact A.b_range
    · exact A.b_tuple
    · exact A.b_max
    · exact A.b_len
    · exact A.b_list
  xn := fun _ g hg => b.fg g (by
    cases hg)
  er := fun _ q hq => A.er (8 * n + 6) q hq
  df := fun _ q hq => b.fd q hq
  ef := A.ef _ rfl rfl rfl rfl
  ob := fun _ => ⟨A.clf, fun q hq => ⟨8 * n + 2, b.ms q (by
    cases hq), by omega⟩, fun q hq => ⟨8 * n + 2, b.mks q (by
    simp only [List.mem_cons, List.not_mem_nil, or_false] at hq
    subst hq
    all_goals simp [knames]), by omega⟩, fun q hq => ⟨8 * n + 5, b.it q (by
    simp only [List.mem_cons, List.not_mem_nil, or_false] at hq
    subst hq
    all_goals simp [its]), by omega⟩⟩
theorem all_nil {a : Type} {P : a → Prop} : ∀ x ∈ ([] : List a), P x := fun _ h => by cases h
theorem all_cons {a : Type} {P : a → Prop} {y : a} {l : List a} (h : P y) (t : ∀ x ∈ l, P x) : ∀ x ∈ y :: l, P x := fun x hx => (List.mem_cons.mp hx).elim (fun e => e ▸ h) (t x)
theorem beh (A : All P w K mg base) : ∀ n, Beh P w K mg base n
  | 0 => ⟨fun f hg => by
      refine all_cons ?_ (all_cons ?_ (all_cons ?_ (all_cons ?_ (all_cons ?_ (all_cons ?_ (all_cons ?_ (all_cons ?_ (all_cons ?_ (all_cons ?_ (all_nil)))))))))) f hg
      · exact fo_zero A.h_pick_at
      · exact fo_zero A.h_law_mixed
      · exact fo_zero A.h_law_draw
      · exact fo_zero A.h_law_is_int
      · exact fo_zero A.h_law_same
      · exact fo_zero A.h_law_numbers
      · exact fo_zero A.h_law_tasks
      · exact fo_zero A.h_law_waits
      · exact fo_zero A.h_law_chosen
      · exact fo_zero A.h_law_picked
    , fun f hg => by
      simp [xnames] at hg
    , fun f hg => by
      simp [hnames] at hg
    , fun f hg => by
      simp [lnames] at hg
    , fun f hg => by
      simp [inames] at hg
    , fun f hg => by
      simp [fnames] at hg
    , fun q hg => by
      simp [df] at hg
    , fun q hg => by
      refine all_cons ?_ (all_cons ?_ (all_nil)) q hg
      · exact ms_zero (fs := ["weaving"]) A.h_WovenTasks_pick (by decide) (by decide)
      · exact ms_zero (fs := []) A.h_WaitTasks_pick (by decide) (by decide)
    , fun q hg => by
      simp only [knames, List.mem_cons, List.not_mem_nil, or_false] at hg
      subst hg
      exact mkP_zero A.h_WovenTasks (A.clf ("WovenTasks", ["weaving"]) (by decide)).mg
    , fun q hg => by
      simp only [its, List.mem_cons, List.not_mem_nil, or_false] at hg
      subst hg
      exact itat_up (A.itr _ _ (by simp [its0])) (by omega)
    ⟩
  | n + 1 => ⟨fun f hg => by
      have b := beh A n
      refine all_cons ?_ (all_cons ?_ (all_cons ?_ (all_cons ?_ (all_cons ?_ (all_cons ?_ (all_cons ?_ (all_cons ?_ (all_cons ?_ (all_cons ?_ (all_nil)))))))))) f hg
      · exact (fo_step A.h_pick_at s_pick_at rfl rfl rfl rfl (d_pick_at K (tb n)) rfl (fun as s => tb_pick_at n as s) (av_pick_at A b)).up (by omega)
      · exact (fo_step A.h_law_mixed s_law_mixed rfl rfl rfl rfl (d_law_mixed K (tb n)) rfl (fun as s => tb_law_mixed n as s) (av_law_mixed A b)).up (by omega)
      · exact (fo_step A.h_law_draw s_law_draw rfl rfl rfl rfl (d_law_draw K (tb n)) rfl (fun as s => tb_law_draw n as s) (av_law_draw A b)).up (by omega)
      · exact (fo_step A.h_law_is_int s_law_is_int rfl rfl rfl rfl (d_law_is_int K (tb n)) rfl (fun as s => tb_law_is_int n as s) (av_law_is_int A b)).up (by omega)
      · exact (fo_step A.h_law_same s_law_same rfl rfl rfl rfl (d_law_same K (tb n)) rfl (fun as s => tb_law_same n as s) (av_law_same A b)).up (by omega)
      · exact (fo_step A.h_law_numbers s_law_numbers rfl rfl rfl rfl (d_law_numbers K (tb n)) rfl (fun as s => tb_law_numbers n as s) (av_law_numbers A b)).up (by omega)
      · exact (fo_step A.h_law_tasks s_law_tasks rfl rfl rfl rfl (d_law_tasks K (tb n)) rfl (fun as s => tb_law_tasks n as s) (av_law_tasks A b)).up (by omega)
      · exact (fo_step A.h_law_waits s_law_waits rfl rfl rfl rfl (d_law_waits K (tb n)) rfl (fun as s => tb_law_waits n as s) (av_law_waits A b)).up (by omega)
      · exact (fo_step A.h_law_chosen s_law_chosen rfl rfl rfl rfl (d_law_chosen K (tb n)) rfl (fun as s => tb_law_chosen n as s) (av_law_chosen A b)).up (by omega)
      · exact (fo_step A.h_law_picked s_law_picked rfl rfl rfl rfl (d_law_picked K (tb n)) rfl (fun as s => tb_law_picked n as s) (av_law_picked A b)).up (by omega)
    , fun f hg => by
      have b := beh A n
      simp [xnames] at hg
    , fun f hg => by
      have b := beh A n
      simp [hnames] at hg
    , fun f hg => by
      have b := beh A n
      simp [lnames] at hg
    , fun f hg => by
      have b := beh A n
      simp [inames] at hg
    , fun f hg => by
      have b := beh A n
      simp [fnames] at hg
    , fun q hg => by
      have b := beh A n
      simp [df] at hg
    , fun q hg => by
      have b := beh A n
      refine all_cons ?_ (all_cons ?_ (all_nil)) q hg
      · exact msat_up (msat_step A.h_WovenTasks_pick s_WovenTasks_pick rfl rfl rfl rfl rfl (x_WovenTasks_pick K (tb n)) rfl (fun as s => tb_WovenTasks_pick n as s) (fun as s => tbx_WovenTasks_pick n as s) (av_WovenTasks_pick A b) (by decide) (by decide)) (by omega)
      · exact msat_up (msat_step A.h_WaitTasks_pick s_WaitTasks_pick rfl rfl rfl rfl rfl (x_WaitTasks_pick K (tb n)) rfl (fun as s => tb_WaitTasks_pick n as s) (fun as s => tbx_WaitTasks_pick n as s) (av_WaitTasks_pick A b) (by decide) (by decide)) (by omega)
    , fun q hg => by
      have b := beh A n
      simp only [knames, List.mem_cons, List.not_mem_nil, or_false] at hg
      subst hg
      exact mkat_up (mkatP_step (N := n_WovenTasks.drop 1) A.h_WovenTasks s_WovenTasks rfl rfl rfl rfl rfl (x_WovenTasks K (tb n)) rfl rfl (fun as s => tb_WovenTasks n as s) (fun as s => tbx_WovenTasks n as s) (av_WovenTasks A b) (A.clf ("WovenTasks", ["weaving"]) (by decide))) (by omega)
    , fun q hg => by
      have b := beh A n
      simp only [its, List.mem_cons, List.not_mem_nil, or_false] at hg
      subst hg
      exact itat_up (A.itr _ _ (by simp [its0])) (by omega)
    ⟩
theorem ok_law {f : Addr} {fd fdp : FuncData} {fp : Addr} (A : All P w K mg base) (F : FunD K "law" "law" (defArgs (top 16)) (defBody (top 16)) (defScope (top 16)) [] [] f fd) (Fp : FunD K "_law_pool" "_law_pool" (defArgs (top 6)) (defBody (top 6)) (defScope (top 6)) [] [] fp fdp) (hp : mg "_law_pool" = some (.ref fp)) :
    FnOk P w K mg base CX0 (8 * depth + 9) f fd ["_law_script"] (spLaw K) := by
  have Gp : FnOk P w K mg base (L2N.CX P w) 1 fp fdp ["_law_script"] (spPool K) := pool_ok Fp ⟨rfl, rfl, rfl, by decide +kernel, rfl, by decide +kernel, by decide +kernel⟩ rfl A.b_list rfl (Or.inl rfl) (by decide) (by decide)
  have bp : Binds K fdp ["_law_script"] [] := Fp.bindsN fun _ _ _ _ _ _ us hl => match us, hl with | [_], _ => rfl
  exact quiet_fn (law_ok (Γ := g_law K (tb depth)) (I := I_law) (k := 8 * depth + 7) (N := n_law.drop 2) F s_law rfl rfl rfl rfl (d_law K (tb depth)) rfl (av_law A (beh A depth)) Gp hp Fp.kp bp rfl (by first | exact Or.inl rfl | exact Or.inr (Or.inl rfl)) (by first | exact Or.inl rfl | exact Or.inr rfl) (by decide) (by decide) (by decide) (fun ns hl => true_ ns hl)) (fun _ _ _ _ z => z)
end
def init (i : Nat) : Stmt := (cbody (top i)).headD (.Pass ⟨0, 0, 0, 0⟩)
theorem ob_eq (s : PySem.W.SharedT) : ob s = hk.obs s.abs := obsXG_eq (HandSHeadRun.getT_eq s)
theorem run (w : World) : HandSHeadRun.RunEq R (PySem.W.view R.prog [16]) hk ob 7100 (loose1 ++ loose2) w :=
  PySem.W.byRow2 "special-get-raises" (P := fun w => HandSHeadRun.RunEq R (PySem.W.view R.prog [16]) hk ob 7100 (loose1 ++ loose2) w) run_false run_true w
abbrev own : List Str := []
theorem facts {w : World} {K : PySem.W.Frag} {h : Heap} {mg : Str → Option Value} {f : Addr} (X : K.In h) (G : h.Ns mainGlobals mg) (hfa : mg ("law" : Str) = some (.ref f)) (cx : SaysX R.prog fa fn er ex tbs fxE w K) (hlm : tabU K = true ∧ ∀ q ∈ lmNs, lmB K q.1 = true) :
    ∃ fd : FuncData, (∀ (s : Shared) (v : Value), BindsTo s fd ⟨[v], []⟩ [("_law_script", v)]) ∧ ∀ base : Heap, K.In base → base.Ns mainGlobals mg → (∀ q ∈ lmNs, LamX.TabB base mg (lmC K q.1) (lmP K q.1)) → FnOk R.prog w K mg base CX0 (8 * depth + 9) f fd ["_law_script"] (spLaw K) := by
  have c0 := cx.u
  have c := c0.f
  obtain ⟨f0, F0⟩ := c.d.def_ 0 (d := dd_pick_at) rfl
  have G0 := He.glo_ok X G (c.d.fact 0 (f := .glo "pick_at") rfl)
  obtain ⟨f1, F1⟩ := c.d.def_ 1 (d := dd_law_mixed) rfl
  have G1 := He.glo_ok X G (c.d.fact 1 (f := .glo "_law_mixed") rfl)
  obtain ⟨f2, F2⟩ := c.d.def_ 2 (d := dd_law_draw) rfl
  have G2 := He.glo_ok X G (c.d.fact 2 (f := .glo "_law_draw") rfl)
  obtain ⟨f3, F3⟩ := c.d.def_ 3 (d := dd_law_is_int) rfl
  have G3 := He.glo_ok X G (c.d.fact 3 (f := .glo "_law_is_int") rfl)
  obtain ⟨f4, F4⟩ := c.d.def_ 4 (d := dd_law_same) rfl
  have G4 := He.glo_ok X G (c.d.fact 4 (f := .glo "_law_same") rfl)
  obtain ⟨f5, F5⟩ := c.d.def_ 5 (d := dd_law_numbers) rfl
  have G5 := He.glo_ok X G (c.d.fact 5 (f := .glo "_law_numbers") rfl)
  obtain ⟨f6, F6⟩ := c.d.def_ 6 (d := dd_law_tasks) rfl
  have G6 := He.glo_ok X G (c.d.fact 6 (f := .glo "_law_tasks") rfl)
  obtain ⟨f7, F7⟩ := c.d.def_ 7 (d := dd_law_waits) rfl
  have G7 := He.glo_ok X G (c.d.fact 7 (f := .glo "_law_waits") rfl)
  obtain ⟨f8, F8⟩ := c.d.def_ 8 (d := dd_law_chosen) rfl
  have G8 := He.glo_ok X G (c.d.fact 8 (f := .glo "_law_chosen") rfl)
  obtain ⟨f9, F9⟩ := c.d.def_ 9 (d := dd_law_picked) rfl
  have G9 := He.glo_ok X G (c.d.fact 9 (f := .glo "_law_picked") rfl)
  obtain ⟨f10, F10⟩ := c.d.def_ 10 (d := dd_law_pool) rfl
  have G10 := He.glo_ok X G (c.d.fact 10 (f := .glo "_law_pool") rfl)
  obtain ⟨f11, F11⟩ := c.d.def_ 11 (d := dd_law) rfl
  have G11 := He.glo_ok X G (c.d.fact 11 (f := .glo "law") rfl)
  have B0 := He.free_ok X G (c.d.fact 12 (f := .free "all") rfl)
  have B1 := He.free_ok X G (c.d.fact 13 (f := .free "bool") rfl)
  have B2 := He.free_ok X G (c.d.fact 14 (f := .free "int") rfl)
  have B3 := He.free_ok X G (c.d.fact 15 (f := .free "isinstance") rfl)
  have B4 := He.free_ok X G (c.d.fact 16 (f := .free "len") rfl)
  have B5 := He.free_ok X G (c.d.fact 17 (f := .free "list") rfl)
  have B6 := He.free_ok X G (c.d.fact 18 (f := .free "max") rfl)
  have B7 := He.free_ok X G (c.d.fact 19 (f := .free "range") rfl)
  have B8 := He.free_ok X G (c.d.fact 20 (f := .free "sorted") rfl)
  have B9 := He.free_ok X G (c.d.fact 21 (f := .free "str") rfl)
  have B10 := He.free_ok X G (c.d.fact 22 (f := .free "super") rfl)
  have B11 := He.free_ok X G (c.d.fact 23 (f := .free "tuple") rfl)
  have E := c.ex
  unfold ex at E
  have M0 := He.glo_ok X G (c.d.fact 24 (f := .glo "WovenTasks") rfl)
  have M1 := He.glo_ok X G (c.d.fact 25 (f := .glo "WaitTasks") rfl)
  have M2 := He.meth_ok (c.d.fact 26 (f := .meth "WovenTasks" "pick") rfl)
  have M3 := He.meth_ok (c.d.fact 27 (f := .meth "WaitTasks" "pick") rfl)
  have M4 := He.mkr_ok (c.d.fact 28 (f := .mkr "WovenTasks") rfl)
  obtain ⟨q0, Q0⟩ := c.d.def_ 12 (d := dm_WovenTasks_pick) rfl
  obtain ⟨q1, Q1⟩ := c.d.def_ 13 (d := dm_WaitTasks_pick) rfl
  obtain ⟨q2, Q2⟩ := c.d.def_ 14 (d := dm_WovenTasks) rfl
  simp only [Bool.and_eq_true] at E
  obtain ⟨⟨⟨E0, Z0⟩, Z1⟩, Y0⟩ := E
  have A : ∀ base : Heap, (∀ q ∈ lmNs, LamX.TabB base mg (lmC K q.1) (lmP K q.1)) → All R.prog w K mg base := fun base tbb => ⟨
    ⟨_, f0, _, F0, G0, FunD.bindsN (ps := ["picks", "at"]) F0 fun _ _ _ _ _ _ us hl => match us, hl with | [_, _], _ => rfl⟩,
    ⟨_, f1, _, F1, G1, FunD.bindsN (ps := ["_law_cell", "_law_turn", "_law_limit"]) F1 fun _ _ _ _ _ _ us hl => match us, hl with | [_, _, _], _ => rfl⟩,
    ⟨_, f2, _, F2, G2, FunD.bindsN (ps := ["_law_pool_here", "_law_limit"]) F2 fun _ _ _ _ _ _ us hl => match us, hl with | [_, _], _ => rfl⟩,
    ⟨_, f3, _, F3, G3, FunD.bindsN (ps := ["_law_thing"]) F3 fun _ _ _ _ _ _ us hl => match us, hl with | [_], _ => rfl⟩,
    ⟨_, f4, _, F4, G4, FunD.bindsN (ps := ["_law_mine", "_law_due"]) F4 fun _ _ _ _ _ _ us hl => match us, hl with | [_, _], _ => rfl⟩,
    ⟨_, f5, _, F5, G5, FunD.bindsN (ps := ["_law_pool_here"]) F5 fun _ _ _ _ _ _ us hl => match us, hl with | [_], _ => rfl⟩,
    ⟨_, f6, _, F6, G6, FunD.bindsN (ps := ["_law_pool_here"]) F6 fun _ _ _ _ _ _ us hl => match us, hl with | [_], _ => rfl⟩,
    ⟨_, f7, _, F7, G7, FunD.bindsN (ps := ["_law_pairs"]) F7 fun _ _ _ _ _ _ us hl => match us, hl with | [_], _ => rfl⟩,
    ⟨_, f8, _, F8, G8, FunD.bindsN (ps := ["_law_ready", "_law_woven", "_law_count"]) F8 fun _ _ _ _ _ _ us hl => match us, hl with | [_, _, _], _ => rfl⟩,
    ⟨_, f9, _, F9, G9, FunD.bindsN (ps := ["_law_tasks_here", "_law_woven", "_law_world", "_law_count"]) F9 fun _ _ _ _ _ _ us hl => match us, hl with | [_, _, _, _], _ => rfl⟩,
    B0,
    B1,
    B2,
    B3,
    B4,
    B5,
    B6,
    B7,
    B8,
    B9,
    B10,
    B11,
    ⟨_, q0, Q0, M2, FunD.bindsN (ps := ["self", "count", "ready", "waits"]) Q0 fun _ _ _ _ _ _ us hl => match us, hl with | [_, _, _, _], _ => rfl⟩,
    ⟨_, q1, Q1, M3, FunD.bindsN (ps := ["self", "count", "ready", "waits"]) Q1 fun _ _ _ _ _ _ us hl => match us, hl with | [_, _, _, _], _ => rfl⟩,
    ⟨_, q2, Q2, M4, FunD.bindsN (ps := ["self", "weaving"]) Q2 fun _ _ _ _ _ _ us hl => match us, hl with | [_, _], _ => rfl⟩,
    (fun q hq => by
      simp only [oc, List.mem_cons, List.not_mem_nil, or_false] at hq
      rcases hq with rfl | rfl
      · exact clfB_ok M0 Z0
      · exact clfB_ok M1 Z1),
    (fun cl q hq => by
      simp only [its0, List.mem_cons, List.not_mem_nil, or_false] at hq
      subst hq
      exact nwAt_of (fs := []) Y0 (clfB_ok M1 Z1)),
    (fun k q hq => by cases hq),
    (fun Γ h1 h2 h3 h4 => errFacts_of own bn (by rw [h1, h2, h3]; exact E0) (fun x hx => by
      simp [own] at hx) (by rw [h1]; rfl) (by rw [h2]; rfl) (by rw [h3]; rfl) (fun x n hx => by
      simp only [bn, List.lookup] at hx
      cases hx) (fun q hq => by
      rw [h4] at hq
      cases hq))⟩
  have e := hfa.symm.trans G11
  cases e
  have b := FunD.bindsA (ps := ["_law_script"]) F11 fun _ _ _ _ _ _ us hl => match us, hl with | [_], _ => rfl
  exact ⟨f11, fun s v => b s [v] rfl, fun base _ _ tbb => ok_law (A base tbb) F11 F10 G10⟩
end K24
open PySem PySem.W PySem.Calls PyProof.Rows
theorem PySem.Challenge.cw_quickways_k24_picks_of_both_ways_holds : PySem.Challenge.rw_quickways_k24_picks_of_both_ways.Holds := by
  w_on; o_law
  refine HandSHeadRun.head_any (r := OpenLaw.row PySem.Challenge.rw_quickways_k24_picks_of_both_ways) (q := view (OpenLaw.row PySem.Challenge.rw_quickways_k24_picks_of_both_ways).prog [16]) (H := K24.hk) (ob := K24.ob) (M := 7100) (loose := K24.loose1 ++ K24.loose2) (d := HandSHeadRun.topDef (OpenLaw.row PySem.Challenge.rw_quickways_k24_picks_of_both_ways).prog 16) (kwd := []) K24.ob_eq
    (by kernel_rfl) (fun s => by kernel_rfl) K24.run (by kernel_rfl) (by kernel_rfl) (by kernel_rfl) (by rfl) (by first | assumption | decide +kernel) (by decide +kernel) ⟨rfl, rfl, rfl, rfl, rfl, by decide +kernel⟩ ?hw ?hc
  case hw => w_witness2
  case hc =>
    refine LamX.walk_ofTsE (l := PySem.Challenge.rw_quickways_k24_picks_of_both_ways) (n := 63) (k := 8 * K24.depth + 9) (x := "_law_script") (CX := fun _ => L2.CX0) rfl (by decide) (by kernel_rfl) ⟨rfl, by decide, by decide⟩ ?F (fun _ _ _ _ _ z => z)
    intro w mg fa h Y G hmg0
    obtain ⟨K, KX, c, htu, hem⟩ := Y
    have hmg : mg ("law" : PySem.Str) = some (.ref fa) := by
      have e : (HandSHeadRun.topDef (OpenLaw.row PySem.Challenge.rw_quickways_k24_picks_of_both_ways).prog 16).name = ("law" : PySem.Str) := by kernel_rfl
      rw [← e]
      exact hmg0
    obtain ⟨fd, hb, hF⟩ := K24.facts (w := w) KX G hmg c ⟨htu, fun q hq => (hem q hq).1⟩
    have at_ : ∀ p ∈ Ip.lmNs.map (fun q => (Ip.lmC K q.1, Ip.lmP K q.1)), ∃ q ∈ Ip.lmNs, p = (Ip.lmC K q.1, Ip.lmP K q.1) := fun p hp => by
      obtain ⟨q, hq, e⟩ := List.mem_map.mp hp
      exact ⟨q, hq, e.symm⟩
    refine ⟨K, KX, fd, Ip.lmNs.map (fun q => (Ip.lmC K q.1, Ip.lmP K q.1)), Ip.spLaw K, fun p hp => ?_, fun p hp => ?_, fun p hp => ?_, hb, fun H a ns hl _ hT hS => ⟨a, ns, rfl, hS, hl, fun t ht => ?_, fun _ => rfl⟩, fun base h1 h2 TB => hF base h1 h2 fun q hq => TB _ (List.mem_map.mpr ⟨q, hq, rfl⟩)⟩
    · obtain ⟨q, hq, rfl⟩ := at_ p hp
      exact (hem q hq).2
    · obtain ⟨q, hq, rfl⟩ := at_ p hp
      exact (Ip.lmB_ok (hem q hq).1).1
    · obtain ⟨q, hq, rfl⟩ := at_ p hp
      exact (Ip.lmB_ok (hem q hq).1).2.2 h KX
    · obtain ⟨q, hq, rfl⟩ := List.mem_map.mp ht
      exact LamX.TabS.nil (hT _ (List.mem_map.mpr ⟨q, hq, rfl⟩))


