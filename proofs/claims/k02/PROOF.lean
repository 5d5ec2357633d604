import PyProof.Rows.All
import Wide.All
import OpenK.AllK
import Wide.FinOn
import HandS.More
import HandS.Head0
import HandS.Head1
import HandS.Head2
import HandS.HeadEnd
import HandS.HeadHook1
import HandS.HeadHook2
import HandS.HeadHook3
import HandS.Lambda
import KE.KNest
import HandS.ForMost
import HandS.TupAny
import HandS.IsInst
import PyProof.Rows.StrIntSpec
import PyProof.StrBlock2
import PyProof.FString3
import PyProof.FactsAll.str_1
import HandS.FStr
import HandS.Text
import HandS.StrMore
import KE.SortData
import KE.DataMinMax
import KE.KExcSuper
import HandS.ExcInit
import HandS.ExcOwn
import HandS.WordsExc
import HandS.Nested
import HandS.ExcCtx
import HandS.HotCalls
import HandS.ExcInitHot
import KE.KIsAll
import KE.KTryMore
import HandS.ExcIs
import HandS.ExcField
import HandS.NoneIn
import HandS.GenList
import HandS.Iter
import KE.GoesNew
import HandS.Walk
import PyProof.AutoSeq1
import HandS.Defaults
import HandS.Style
import PyProof.Rows.TmSorted
import HandS.SortKw
import KE.KLam
import KE.DataMinKey
import HandS.Codes
import PySem.Challenge.RW_quickways_k02_whole_order_of_kinds
import HandS.HeadWalk
set_option Elab.async false
set_option linter.all false
set_option maxRecDepth 100000
set_option maxHeartbeats 4000000
/-! The code object of a def, its table. -/
namespace Ip
open PySem L2 PySem.W He
/-- the code object of the def of this name -/
def lmC (K : Frag) (x : Str) : Addr := match K.lookup (ga K x) with
  | some ⟨_, _, .func fd, _⟩ => (match fd.code with
    | .ref c => c
    | _ => 0)
  | _ => 0
/-- its table -/
def lmP (K : Frag) (x : Str) : Addr := match K.lookup (lmC K x) with
  | some ⟨_, _, .fields vs, _⟩ => (match vs.getD 11 Value.none with
    | .ref P => P
    | _ => 0)
  | _ => 0
def vlS : Value → Bool
  | .str _ _ => true
  | _ => false
def vlI : Value → Bool
  | .int _ _ => true
  | _ => false
def vlB : Value → Bool
  | .bool _ => true
  | _ => false
theorem vlS_ok {v : Value} (h : vlS v = true) : ∃ s t, v = .str s t := by
  cases v <;> first | exact ⟨_, _, rfl⟩ | cases h
theorem vlI_ok {v : Value} (h : vlI v = true) : ∃ s t, v = .int s t := by
  cases v <;> first | exact ⟨_, _, rfl⟩ | cases h
theorem vlB_ok {v : Value} (h : vlB v = true) : ∃ b, v = .bool b := by
  cases v <;> first | exact ⟨_, rfl⟩ | cases h
def refIs (v : Value) (a : Addr) : Bool := match v with
  | .ref b => decide (b = a)
  | _ => false
theorem refIs_ok {v : Value} {a : Addr} (h : refIs v a = true) : v = .ref a := by
  cases v with
  | ref b => rw [of_decide_eq_true h]
  | _ => cases h
/-- what a lambda's making asks of the maker's code object -/
def lmB (K : Frag) (x : Str) : Bool := (match K.lookup (ga K x) with
  | some ⟨_, _, .func fd, _⟩ => refIs fd.code (lmC K x)
  | _ => false) && ((match K.lookup (lmC K x) with
  | some ⟨.type cn, _, .fields vs, _⟩ => decide (cn = "code") && (refIs (vs.getD 11 .none) (lmP K x) && (decide (11 < vs.size) && (vlS (vs.getD 18 .none) && (vlI (vs.getD 7 .none) && (vlB (vs.getD 9 .none) && vlI (vs.getD 10 .none))))))
  | _ => false) && ((K.lookup (lmP K x)).isNone && decide (lmC K x ≠ lmP K x)))
theorem lmB_ok {K : Frag} {x : Str} (h : lmB K x = true) : K.lookup (lmP K x) = none ∧ (∀ o fd, K.lookup (ga K x) = some o → o.data = .func fd → fd.code = .ref (lmC K x)) ∧ ∀ h : Heap, K.In h → CodeHd h (lmC K x) (lmP K x) := by
  unfold lmB at h
  rw [Bool.and_eq_true, Bool.and_eq_true, Bool.and_eq_true] at h
  obtain ⟨h1, h2, h3, h4⟩ := h
  refine ⟨Option.isNone_iff_eq_none.mp h3, fun o fd e d => ?_, fun hp hK => ?_⟩
  · rw [e] at h1
    obtain ⟨oc, od, dt, sl⟩ := o
    cases d
    exact refIs_ok h1
  · cases q : K.lookup (lmC K x) with
    | none =>
      rw [q] at h2
      cases h2
    | some o =>
      rw [q] at h2
      obtain ⟨oc, od, dt, sl⟩ := o
      cases oc with
      | type cn =>
        cases dt with
        | fields vs =>
          have h2 : (decide (cn = "code") && (refIs (vs.getD 11 .none) (lmP K x) && (decide (11 < vs.size) && (vlS (vs.getD 18 .none) && (vlI (vs.getD 7 .none) && (vlB (vs.getD 9 .none) && vlI (vs.getD 10 .none))))))) = true := h2
          simp only [Bool.and_eq_true, decide_eq_true_eq] at h2
          obtain ⟨g1, g2, g3, g4, g5, g6, g7⟩ := h2
          obtain ⟨s1, t1, e1⟩ := vlS_ok g4
          obtain ⟨s2, t2, e2⟩ := vlI_ok g5
          obtain ⟨b3, e3⟩ := vlB_ok g6
          obtain ⟨s4, t4, e4⟩ := vlI_ok g7
          have e5 := refIs_ok g2
          have e6 : vs[11]? = some (.ref (lmP K x)) := by
            rw [Array.getElem?_eq_getElem g3, ← e5]
            simp [Array.getD, g3]
          exact ⟨_, vs, s1, t1, s2, t2, b3, s4, t4, hK _ _ q, by rw [g1], rfl, e6, e5, e1, e2, e3, e4, of_decide_eq_true h4⟩
        | _ => cases h2
      | _ => cases dt <;> cases h2
/-- an empty table -/
def emT : Option Obj → Bool
  | some ⟨.none, none, .fields vs, sl⟩ => vs.isEmpty && sl.isEmpty
  | _ => false
theorem emT_ok {o : Option Obj} (h : emT o = true) : o = some { cls := .none, data := .fields #[] } := by
  unfold emT at h
  split at h
  · rw [Bool.and_eq_true] at h
    rw [Array.isEmpty_iff.mp h.1, Array.isEmpty_iff.mp h.2]
  · cases h
end Ip

set_option Elab.async false
set_option linter.all false
namespace Ip
open PySem
/-! Which tables of code objects are written: that of the one def that makes a lambda. -/
def lmN : Str := "_least_with"
def tabK (K : PySem.W.Frag) : List (Addr × Str) := [(lmP K lmN, (lmN ++ ".<locals>.") ++ "<lambda>")]
end Ip

set_option Elab.async false
set_option linter.all false
set_option maxRecDepth 100000
set_option maxHeartbeats 4000000
/-! Data over the hand layer: values by what they hold, the heap in three parts (known, lent out, own). -/
namespace Ip
open PySem L2
abbrev D := PyData
/-- every known object stays -/
def Ex (H H' : Hp) : Prop := ∀ a o, H a = some o → H' a = some o
theorem Ex.refl (H : Hp) : Ex H H := fun _ _ h => h
theorem Ex.trans {H H1 H2 : Hp} (a : Ex H H1) (b : Ex H1 H2) : Ex H H2 := fun x o h => b x o (a x o h)
theorem Ex.new {H : Hp} {q : Addr} {o : HO} (h : H q = none) : Ex H (upd H q o) := fun a u e => by
  rw [upd_ne (ne_of_none e h)]
  exact e
theorem Ex.free {H H' : Hp} {q : Addr} (e : Ex H H') (h : H' q = none) : H q = none := by
  cases h1 : H q with
  | none => rfl
  | some o =>
    rw [e q o h1] at h
    cases h
theorem Ex.up {B H : Hp} {q : Addr} {o : HO} (e : Ex B H) : Ex (upd B q o) (upd H q o) := fun a u h => by
  by_cases ha : a = q
  · subst ha
    rw [upd_same] at h ⊢
    exact h
  · rw [upd_ne ha] at h ⊢
    exact e a u h
theorem Ex.right {B H : Hp} {q : Addr} {o : HO} (e : Ex B H) (h : B q = none) : Ex B (upd H q o) := fun a u ha => by
  rw [upd_ne (ne_of_none ha h)]
  exact e a u ha
/-! ### what a value holds -/
mutual
inductive Rp (K : PySem.W.Frag) (B : Hp) : V → D → Prop
  | non : Rp K B .non .none
  | bl (b : Bool) : Rp K B (.bl b) (.bool b)
  | int (i : Int) : Rp K B (.int i) (.int i)
  | str (x : Str) : Rp K B (.str x) (.str x)
  | lst {a : Addr} {xs : List V} {ds : List D} : B a = some (.lst xs) → RpA K B xs ds → Rp K B (.ref a) (.list ds)
  | tup {a : Addr} {xs : List V} {ds : List D} : SqT K B a xs → RpA K B xs ds → Rp K B (.ref a) (.tuple ds)
inductive RpA (K : PySem.W.Frag) (B : Hp) : List V → List D → Prop
  | nil : RpA K B [] []
  | cons {v : V} {vs : List V} {d : D} {ds : List D} : Rp K B v d → RpA K B vs ds → RpA K B (v :: vs) (d :: ds)
end
theorem sqt_mono {K : PySem.W.Frag} {B B' : Hp} (e : Ex B B') {a : Addr} {xs : List V} (h : SqT K B a xs) : SqT K B' a xs := by
  rcases h with (h | ⟨o, h⟩) | h
  · exact .inl (.inl (e _ _ h))
  · exact .inl (.inr ⟨o, e _ _ h⟩)
  · exact .inr h
mutual
theorem Rp.mono {K : PySem.W.Frag} {B B' : Hp} (e : Ex B B') : ∀ {d : D} {v : V}, Rp K B v d → Rp K B' v d
  | _, _, .non => .non
  | _, _, .bl b => .bl b
  | _, _, .int i => .int i
  | _, _, .str x => .str x
  | _, _, .lst h r => .lst (e _ _ h) (RpA.mono e r)
  | _, _, .tup h r => .tup (sqt_mono e h) (RpA.mono e r)
theorem RpA.mono {K : PySem.W.Frag} {B B' : Hp} (e : Ex B B') : ∀ {ds : List D} {vs : List V}, RpA K B vs ds → RpA K B' vs ds
  | _, _, .nil => .nil
  | _, _, .cons h r => .cons (Rp.mono e h) (RpA.mono e r)
end
section
variable {K : PySem.W.Frag} {B : Hp}
theorem RpA.length : ∀ {vs : List V} {ds : List D}, RpA K B vs ds → vs.length = ds.length
  | _, _, .nil => rfl
  | _, _, .cons _ r => congrArg Nat.succ (RpA.length r)
theorem RpA.append : ∀ {vs us : List V} {ds es : List D}, RpA K B vs ds → RpA K B us es → RpA K B (vs ++ us) (ds ++ es)
  | _, _, _, _, .nil, s => s
  | _, _, _, _, .cons h r, s => .cons h (RpA.append r s)
theorem RpA.get : ∀ {vs : List V} {ds : List D} {i : Nat} {d : D}, RpA K B vs ds → ds[i]? = some d → ∃ v, vs[i]? = some v ∧ Rp K B v d
  | _, _, _, _, .nil, e => by simp at e
  | _, _, 0, _, .cons h _, e => by simp at e; subst e; exact ⟨_, rfl, h⟩
  | _, _, i + 1, d, .cons _ r, e => by
    obtain ⟨v, h1, h2⟩ := RpA.get (i := i) (d := d) r (by simpa using e)
    exact ⟨v, by simpa using h1, h2⟩
theorem RpA.getV : ∀ {vs : List V} {ds : List D} {i : Nat} {v : V}, RpA K B vs ds → vs[i]? = some v → ∃ d, ds[i]? = some d ∧ Rp K B v d
  | _, _, _, _, .nil, e => by simp at e
  | _, _, 0, _, .cons h _, e => by simp at e; subst e; exact ⟨_, rfl, h⟩
  | _, _, i + 1, v, .cons _ r, e => by
    obtain ⟨d, h1, h2⟩ := RpA.getV (i := i) (v := v) r (by simpa using e)
    exact ⟨d, by simpa using h1, h2⟩
theorem RpA.take : ∀ {vs : List V} {ds : List D} (n : Nat), RpA K B vs ds → RpA K B (vs.take n) (ds.take n)
  | _, _, 0, _ => .nil
  | _, _, _ + 1, .nil => .nil
  | _, _, n + 1, .cons h r => .cons h (RpA.take n r)
theorem RpA.drop : ∀ {vs : List V} {ds : List D} (n : Nat), RpA K B vs ds → RpA K B (vs.drop n) (ds.drop n)
  | _, _, 0, r => r
  | _, _, _ + 1, .nil => .nil
  | _, _, n + 1, .cons _ r => RpA.drop n r
theorem RpA.set : ∀ {vs : List V} {ds : List D} {v : V} {d : D} (i : Nat), RpA K B vs ds → Rp K B v d → RpA K B (vs.set i v) (ds.set i d)
  | _, _, _, _, _, .nil, _ => .nil
  | _, _, _, _, 0, .cons _ r, h => .cons h r
  | _, _, _, _, i + 1, .cons h0 r, h => .cons h0 (RpA.set i r h)
theorem RpA.one {v : V} {d : D} (h : Rp K B v d) : RpA K B [v] [d] := .cons h .nil
mutual
theorem Rp.dp {H : Hp} (e : Ex B H) : ∀ {d : D} {v : V}, Rp K B v d → Dp K H v d
  | _, _, .non => .non
  | _, _, .bl b => .bl b
  | _, _, .int i => .int i
  | _, _, .str x => .str x
  | _, _, .lst h r => .lst (Or.inl (Or.inl (e _ _ h))) (RpA.dp e r)
  | _, _, .tup h r => .tup (sqt_mono e h) (RpA.dp e r)
theorem RpA.dp {H : Hp} (e : Ex B H) : ∀ {ds : List D} {vs : List V}, RpA K B vs ds → DpAll K H vs ds
  | _, _, .nil => .nil
  | _, _, .cons h r => .cons (Rp.dp e h) (RpA.dp e r)
end
end
/-! ### the pool of draws -/
/-- where it stands, and where its script -/
structure Pa where
  a : Addr
  q : Addr
  /-- a caught error: its object, its dict, its class, its field -/
  lk : Addr → Addr → Str → Str → Prop
  /-- the slot of a list that the caller gets back changed, and where it stands -/
  io : Option (Nat × Addr)
  /-- what is returned is a new list (or None) -/
  fr : Bool
  /-- lists that defs hand about and change: where each stands -/
  ca : Nat → Option Addr
  /-- the tables of code objects: where each stands, its name -/
  tb : List (Addr × Str) := []
instance : Coe Pa Addr := ⟨Pa.a⟩
structure Pl where
  ns : List Int
  i : Int
  r : Int
  c : Int
  l : Int
  /-- what they hold -/
  cs : List (List D) := []
/-- such a list, as an item or an argument -/
def handle (k : Nat) : D := .dict [(.none, .int k)]
/-- flat things, or such a list -/
inductive RcV (ca : Nat → Option Addr) : V → D → Prop
  | non : RcV ca .non .none
  | bl (b : Bool) : RcV ca (.bl b) (.bool b)
  | int (i : Int) : RcV ca (.int i) (.int i)
  | str (x : Str) : RcV ca (.str x) (.str x)
  | cell {k : Nat} {a : Addr} : ca k = some a → RcV ca (.ref a) (handle k)
inductive RcA (ca : Nat → Option Addr) : List V → List D → Prop
  | nil : RcA ca [] []
  | cons {v : V} {vs : List V} {d : D} {ds : List D} : RcV ca v d → RcA ca vs ds → RcA ca (v :: vs) (d :: ds)
/-- not the pool, none of the lists -/
def NotP (p : Pa) (a : Addr) : Prop := a ≠ p.a ∧ (∀ k, p.ca k ≠ some a) ∧ ∀ q ∈ p.tb, q.1 ≠ a
/-- of the lists before it -/
def lowc (ca : Nat → Option Addr) (k : Nat) : Nat → Option Addr := fun j => if j < k then ca j else none
structure CeAt (p : Pa) (st : Pl) (B F H : Hp) : Prop where
  at_ : ∀ k a, p.ca k = some a → ∃ xs ds, st.cs[k]? = some ds ∧ H a = some (.lst xs) ∧ RcA (lowc p.ca k) xs ds
  b : ∀ k a, p.ca k = some a → B a = none ∧ F a = none ∧ a ≠ p.a
  inj : ∀ j k a, p.ca j = some a → p.ca k = some a → j = k
  tn : ∀ q ∈ p.tb, B q.1 = none ∧ F q.1 = none
  tt : LamX.Tabs p.tb H
/-- tables stay where a list is put in another's place -/
theorem tabs_lst {T : List (Addr × Str)} {H : Hp} {a : Addr} {xs : List V} {o : HO} (h : LamX.Tabs T H) (ha : H a = some (.lst xs)) : LamX.Tabs T (upd H a o) := fun q hq => by
  obtain ⟨ps, h1, h2, h3⟩ := h q hq
  refine ⟨ps, by rw [upd_ne (fun e => by rw [e, ha] at h1; cases h1)]; exact h1, h2, fun pos cv hc => ?_⟩
  obtain ⟨c, e1, e2⟩ := h3 pos cv hc
  exact ⟨c, e1, by rw [upd_ne (fun e => by rw [e, ha] at e2; cases e2)]; exact e2⟩
theorem tabs_new {T : List (Addr × Str)} {H : Hp} {a : Addr} {o : HO} (h : LamX.Tabs T H) (ha : H a = none) : LamX.Tabs T (upd H a o) := h.ext fun b u e => by
  rw [upd_ne (ne_of_none e ha)]
  exact e
theorem tabs_upd {T : List (Addr × Str)} {H : Hp} {a : Addr} {o : HO} (h : LamX.Tabs T H) (ha : H a = none ∨ ∃ xs, H a = some (.lst xs)) : LamX.Tabs T (upd H a o) := by
  rcases ha with ha | ⟨xs, ha⟩
  · exact tabs_new h ha
  · exact tabs_lst h ha
theorem CeAt.tne {p : Pa} {st : Pl} {B F H : Hp} (h : CeAt p st B F H) {q : Addr × Str} (hq : q ∈ p.tb) {a : Addr} (ha : H a = none ∨ ∃ xs, H a = some (.lst xs)) : q.1 ≠ a := fun e => by
  obtain ⟨ps, h1, _⟩ := h.tt q hq
  rw [e] at h1
  rcases ha with ha | ⟨xs, ha⟩ <;> rw [ha] at h1 <;> cases h1
theorem CeAt.up {p : Pa} {st : Pl} {B F H B' F' H' : Hp} (h : CeAt p st B F H) (hb : ∀ k a, p.ca k = some a → B' a = none ∧ F' a = none) (hh : ∀ k a, p.ca k = some a → H' a = H a) (hn : ∀ q ∈ p.tb, B' q.1 = none ∧ F' q.1 = none) (ht : LamX.Tabs p.tb H → LamX.Tabs p.tb H') : CeAt p st B' F' H' where
  tn := hn
  tt := ht h.tt
  at_ := fun k a hk => by
    obtain ⟨xs, ds, h1, h2, h3⟩ := h.at_ k a hk
    exact ⟨xs, ds, h1, by rw [hh k a hk]; exact h2, h3⟩
  b := fun k a hk => ⟨(hb k a hk).1, (hb k a hk).2, (h.b k a hk).2.2⟩
  inj := h.inj
theorem CeAt.ne {p : Pa} {st : Pl} {B F H : Hp} (h : CeAt p st B F H) {q : Addr} (hq : H q = none) {k : Nat} {a : Addr} (hk : p.ca k = some a) : a ≠ q := fun e => by
  obtain ⟨xs, ds, _, h2, _⟩ := h.at_ k a hk
  rw [e, hq] at h2
  cases h2
def PlAt (B H : Hp) (p : Pa) (s : Pl) : Prop := H p = some (.lst [.ref p.q, .int s.i, .int s.r, .int s.c, .int s.l]) ∧ B p.q = some (.lst (s.ns.map V.int))
/-! ### the heap in parts: B is known and stays; F is the callers' own; the pool stands at p -/
structure Bs (p : Pa) (st : Pl) (B F H : Hp) : Prop where
  b : Ex B H
  f : Ex F H
  d : ∀ a o, F a = some o → B a = none
  pf : F p = none
  pb : B p = none
  pl : PlAt B H p st
  ce : CeAt p st B F H
theorem Bs.pn {p : Pa} {st : Pl} {B F H : Hp} (w : Bs p st B F H) {q : Addr} (h : H q = none) : q ≠ p := fun e => by
  obtain ⟨h1, _⟩ := w.pl
  rw [e, h1] at h
  cases h
/-- a new object is known -/
theorem Bs.new {p : Pa} {st : Pl} {B F H : Hp} (w : Bs p st B F H) {q : Addr} {o : HO} (h : H q = none) : Bs p st (upd B q o) F (upd H q o) where
  b := w.b.up
  f := w.f.right (w.f.free h)
  d := fun a u e => by
    rw [upd_ne (ne_of_none e (w.f.free h))]
    exact w.d a u e
  pf := w.pf
  pb := by
    rw [upd_ne (fun e => w.pn h e.symm)]
    exact w.pb
  pl := by
    obtain ⟨h1, h2⟩ := w.pl
    exact ⟨by rw [upd_ne (fun e => w.pn h e.symm)]; exact h1, by rw [upd_ne (ne_of_none h2 (w.b.free h))]; exact h2⟩
  ce := w.ce.up (fun k a hk => ⟨by rw [upd_ne (w.ce.ne h hk)]; exact (w.ce.b k a hk).1, (w.ce.b k a hk).2.1⟩) (fun k a hk => by rw [upd_ne (w.ce.ne h hk)])
    (fun t ht => ⟨by rw [upd_ne (w.ce.tne ht (.inl h))]; exact (w.ce.tn t ht).1, (w.ce.tn t ht).2⟩) fun z => tabs_new z h
/-! ### names of a def -/
inductive Sl where
  | no
  | im (d : D)
  | ow (ds : List D)
  | pl
  | er (c : Str) (v : D)
  | ce (k : Nat)
def SlR (K : PySem.W.Frag) (p : Pa) (B M : Hp) : Sl → Option V → Prop
  | .no, _ => True
  | .im d, some v => Rp K B v d
  | .im _, none => False
  | .ow ds, some (.ref a) => ∃ xs, M a = some (.lst xs) ∧ RpA K B xs ds
  | .ow _, _ => False
  | .pl, some (.ref a) => a = p
  | .pl, _ => False
  | .ce k, some (.ref a) => p.ca k = some a
  | .ce _, _ => False
  | .er c v, o => ∃ (a dd : Addr) (f : Str) (u : V), o = some (.ref a) ∧ p.lk a dd c f ∧ B dd = some (.xd [(f, u)]) ∧ Rp K B u v
structure EnR (K : PySem.W.Frag) (p : Pa) (B M : Hp) (env : List Sl) (σ : L2.St) : Prop where
  len : env.length = σ.length
  at_ : ∀ (i : Nat) (s : Sl), env[i]? = some s → ∃ o : Option V, σ[i]? = some o ∧ SlR K p B M s o
  ap : ∀ (i j : Nat) (ds es : List D) (a : Addr), env[i]? = some (.ow ds) → env[j]? = some (.ow es) → σ[i]? = some (some (.ref a)) → σ[j]? = some (some (.ref a)) → i = j
  io : ∀ (i : Nat) (a : Addr) (ds : List D), p.io = some (i, a) → env[i]? = some (.ow ds) → σ[i]? = some (some (.ref a))
structure Rel (K : PySem.W.Frag) (p : Pa) (st : Pl) (B M F : Hp) (env : List Sl) (σ : L2.St) (H : Hp) : Prop where
  bs : Bs p st B F H
  m : Ex M H
  md : ∀ a o, M a = some o → B a = none ∧ F a = none ∧ a ≠ p
  mc : ∀ k a, p.ca k = some a → M a = none
  mt : ∀ q ∈ p.tb, M q.1 = none
  en : EnR K p B M env σ
section
variable {K : PySem.W.Frag} {p : Pa} {st : Pl} {B M F : Hp} {env : List Sl} {σ : L2.St} {H : Hp}
theorem SlR.mono {B' : Hp} (e : Ex B B') : ∀ {s : Sl} {o : Option V}, SlR K p B M s o → SlR K p B' M s o
  | .no, _, _ => True.intro
  | .im _, some _, h => Rp.mono e h
  | .im _, none, h => h
  | .ow _, some (.ref _), h => by
    obtain ⟨xs, h1, h2⟩ := h
    exact ⟨xs, h1, h2.mono e⟩
  | .ow _, some .non, h | .ow _, some (.bl _), h | .ow _, some (.int _), h | .ow _, some (.str _), h | .ow _, some (.byt _), h | .ow _, some (.flt _), h | .ow _, some (.ty _), h | .ow _, none, h => h
  | .pl, some (.ref _), h => h
  | .pl, some .non, h | .pl, some (.bl _), h | .pl, some (.int _), h | .pl, some (.str _), h | .pl, some (.byt _), h | .pl, some (.flt _), h | .pl, some (.ty _), h | .pl, none, h => h
  | .ce _, some (.ref _), h => h
  | .ce _, some .non, h | .ce _, some (.bl _), h | .ce _, some (.int _), h | .ce _, some (.str _), h | .ce _, some (.byt _), h | .ce _, some (.flt _), h | .ce _, some (.ty _), h | .ce _, none, h => h
  | .er _ _, _, h => by
    obtain ⟨a, dd, f, u, h1, h2, h3, h4⟩ := h
    exact ⟨a, dd, f, u, h1, h2, e _ _ h3, h4.mono e⟩
theorem EnR.mono {B' : Hp} (e : Ex B B') (h : EnR K p B M env σ) : EnR K p B' M env σ := ⟨h.len, fun i s hi => by
  obtain ⟨o, h1, h2⟩ := h.at_ i s hi
  exact ⟨o, h1, h2.mono e⟩, h.ap, h.io⟩
/-- a new object is known -/
theorem Rel.new (r : Rel K p st B M F env σ H) {q : Addr} {o : HO} (h : H q = none) : Rel K p st (upd B q o) M F env σ (upd H q o) where
  bs := r.bs.new h
  m := r.m.right (r.m.free h)
  md := fun a u e => by
    obtain ⟨h1, h2, h3⟩ := r.md a u e
    refine ⟨?_, h2, h3⟩
    rw [upd_ne (ne_of_none e (r.m.free h))]
    exact h1
  mc := r.mc
  mt := r.mt
  en := r.en.mono (Ex.new (r.bs.b.free h))
/-- the two own parts as one: what a callee leaves alone -/
def uni (M F : Hp) : Hp := fun a => match M a with
  | some o => some o
  | none => F a
theorem uni_l {M F : Hp} {a : Addr} {o : HO} (h : M a = some o) : uni M F a = some o := by unfold uni; rw [h]
theorem uni_r {M F : Hp} {a : Addr} (h : M a = none) : uni M F a = F a := by unfold uni; rw [h]
theorem uni_cases {M F : Hp} {a : Addr} {o : HO} (h : uni M F a = some o) : M a = some o ∨ (M a = none ∧ F a = some o) := by
  cases e : M a with
  | some u => rw [uni_l e] at h; exact .inl h
  | none => rw [uni_r e] at h; exact .inr ⟨rfl, h⟩
theorem Rel.call (r : Rel K p st B M F env σ H) : Bs p st B (uni M F) H where
  b := r.bs.b
  f := fun a o h => by
    rcases uni_cases h with h | ⟨_, h⟩
    · exact r.m a o h
    · exact r.bs.f a o h
  d := fun a o h => by
    rcases uni_cases h with h | ⟨_, h⟩
    · exact (r.md a o h).1
    · exact r.bs.d a o h
  pf := by
    cases e : uni M F p with
    | none => rfl
    | some o =>
      rcases uni_cases e with h | ⟨_, h⟩
      · exact absurd rfl (r.md p o h).2.2
      · rw [r.bs.pf] at h
        cases h
  pb := r.bs.pb
  pl := r.bs.pl
  ce := r.bs.ce.up (fun k a hk => ⟨(r.bs.ce.b k a hk).1, by rw [uni_r (r.mc k a hk)]; exact (r.bs.ce.b k a hk).2.1⟩) (fun _ _ _ => rfl) (fun q hq => ⟨(r.bs.ce.tn q hq).1, by rw [uni_r (r.mt q hq)]; exact (r.bs.ce.tn q hq).2⟩) fun z => z
theorem Rel.back {st' : Pl} {B' H' : Hp} (r : Rel K p st B M F env σ H) (e : Ex B B') (w : Bs p st' B' (uni M F) H') : Rel K p st' B' M F env σ H' where
  bs := ⟨w.b, fun a o h => w.f a o (by
      cases e1 : M a with
      | none => rw [uni_r e1]; exact h
      | some u =>
        have := (r.md a u e1).2.1
        rw [this] at h
        cases h), fun a o h => w.d a o (by
      cases e1 : M a with
      | none => rw [uni_r e1]; exact h
      | some u =>
        have := (r.md a u e1).2.1
        rw [this] at h
        cases h), r.bs.pf, w.pb, w.pl, w.ce.up (fun k a hk => ⟨(w.ce.b k a hk).1, (r.bs.ce.b k a hk).2.1⟩) (fun _ _ _ => rfl) (fun q hq => ⟨(w.ce.tn q hq).1, (r.bs.ce.tn q hq).2⟩) fun z => z⟩
  m := fun a o h => w.f a o (uni_l h)
  md := fun a o h => ⟨w.d a o (uni_l h), (r.md a o h).2⟩
  mc := r.mc
  mt := r.mt
  en := r.en.mono e
end
end Ip

set_option Elab.async false
set_option linter.all false
set_option maxRecDepth 100000
set_option maxHeartbeats 4000000
/-! A sign, many times; {x:>4} of a whole number, {x:.<8} of a text. -/
namespace Ip
open PySem L2
/-- one sign k times -/
def repS (s : Str) (k : Int) : Str := ⟨Array.replicate k.toNat (s.cps.getD 0 0)⟩
theorem reps_foldl (c : Nat) : ∀ (n : Nat) (acc : Array Nat), (List.replicate n #[c]).foldl (· ++ ·) acc = acc ++ Array.replicate n c
  | 0, acc => by simp
  | n + 1, acc => by
    rw [List.replicate_succ, List.foldl_cons, reps_foldl c n]
    apply Array.toList_inj.mp
    simp [List.replicate_succ]
theorem sign_of {s : Str} (h : s.length = 1) : s.cps = #[s.cps.getD 0 0] := by
  obtain ⟨a⟩ := s
  have h : a.size = 1 := h
  obtain ⟨l⟩ := a
  match l, h with
  | [x], _ => rfl
theorem mul_reps {s : Str} {k : Int} (h : s.length = 1) : Txt.mul s k = repS s k := by
  have hs := sign_of h
  unfold Txt.mul repS
  have h0 : (s.length == 0) = false := by rw [h]; rfl
  rw [h0]
  by_cases h1 : k < 1
  · rw [if_pos h1, show k.toNat = 0 by omega]
    rfl
  · rw [if_neg h1]
    by_cases h2 : k = 1
    · subst h2
      simp only [beq_self_eq_true, Bool.true_or, if_true]
      obtain ⟨a⟩ := s
      have hs : a = #[a.getD 0 0] := hs
      show (⟨a⟩ : Str) = ⟨Array.replicate 1 (a.getD 0 0)⟩
      conv => lhs; rw [hs]
      rfl
    · have h3 : (k == 1) = false := by simpa using h2
      rw [h3, if_neg (by simp)]
      congr 1
      conv => lhs; rw [hs]
      rw [reps_foldl]
      simp
section
variable {X : Cx}
theorem op_mul_sgn : OpR X (binaryOp .Mult) (fun x y H Q => ∃ s k, x = .str s ∧ y = .int k ∧ s.length = 1 ∧ -1000 ≤ k ∧ k ≤ 1000 ∧ Q (.str (repS s k)) H) := by
  intro pins s σ H x y v u Q I rx ry h
  obtain ⟨z, k, rfl, rfl, hl, h1, h2, q⟩ := h
  obtain ⟨t, rfl⟩ := rx
  obtain ⟨t', rfl⟩ := ry
  refine SB.mul ⟨?_, fun h3 _ => ?_, fun h3 _ => ?_⟩ fun a b => ⟨.str (repS z k), H, I.tok _, ⟨a, by rw [mul_reps hl]⟩, q⟩
  · simp only [Bool.or_eq_false_iff, decide_eq_false_iff_not]
    omega
  · rw [hl]
    have : (1 : Int) ≤ (2 ^ 63 - 1) / k := by
      rw [Int.le_ediv_iff_mul_le (by omega)]
      omega
    omega
  · rw [hl]
    have : k.toNat ≤ 1000 := by omega
    have h5 : 1000 ≤ sizeLine := by decide
    unfold Builtin.Str.tooLong
    simp
    omega
end
/-! ### {x:>4} -/
section
variable {prog : Program} {w : World} {A : Around} {E : Value → Shared → Prop} {s : Shared}
open PyProof.Rows Builtin Builtin.Float
theorem cutName_int {m : Nat} {n : Int} {t : Tok} {Q : String → Shared → Prop} (h : Q "int" s) : wpAny (model prog w) A (typeNameOfCut m (.int n t)) Q E s := wpAny_typeNameOfCut_int h
theorem field_int {n : Int} {t : Tok} {sp : Str} {Q : Value → Shared → Prop} (hs : n.natAbs.log2 < 1920) (hok : intSpecOk sp = true) (hl : sp.length ≤ sizeLine)
    (h : Q (.str (intSpecTextOf sp n) (s.toks + 1)) { s with toks := s.toks + 1 + 1 }) : wpAny (model prog w) A (formatField (.int n t) sp) Q E s := by
  have hlt : n.natAbs < 10 ^ 4300 := by
    refine Nat.lt_of_lt_of_le (m := 2 ^ 1920) ?_ (by decide +kernel)
    by_cases h0 : n.natAbs = 0
    · rw [h0]
      exact Nat.pos_of_ne_zero (by decide +kernel)
    · exact (Nat.log2_lt h0).mp hs
  unfold intSpecOk at hok
  cases hp : parseFormatSpec sp.cps.toList "int" 62 with
  | error m =>
    rw [hp] at hok
    simp at hok
  | ok f =>
    rw [hp] at hok
    have ht : intSpecTextOf sp n = intSpecText f n := by unfold intSpecTextOf; rw [hp]
    rw [ht] at h
    simp only [Bool.and_eq_true] at hok
    obtain ⟨⟨hne, hasc⟩, hg⟩ := hok
    simp only [Bool.not_eq_true'] at hne hasc
    unfold intSpecGood at hg
    simp only [Bool.and_eq_true] at hg
    obtain ⟨⟨⟨⟨⟨⟨g1, g2⟩, g3⟩, g4⟩, g5⟩, g6⟩, g7⟩ := hg
    have g1 := beq_iff_eq.mp g1
    have g2 := Option.isNone_iff_eq_none.mp g2
    have g3 : f.noNeg0 = false := by simpa using g3
    have g4 : f.alt = false := by simpa using g4
    have g5 : f.width.getD 0 ≤ 100000 := by simpa using g5
    have g6 := Option.isNone_iff_eq_none.mp g6
    have g7 := Option.isNone_iff_eq_none.mp g7
    have hdig : (Nat.toDigits 10 n.natAbs).length ≤ 4300 := by
      have e := (Nat.length_repr_le_iff (n := n.natAbs) (by decide : 0 < 4300)).mpr hlt
      rwa [← String.length_toList, Nat.toList_repr] at e
    have hlen : (intSpecText f n).length ≤ sizeLine := by
      rw [intSpecText_length n g6 g7, sizeLine_eq]
      clear hlt h
      split <;> omega
    show wpAny _ _ (holding [.int n t] (pyFormat (.int n t) sp)) Q E s
    refine wpAny_holding ?_
    unfold pyFormat
    refine wpAny_bind (wpAny_mkStr (wpAny_bind (m := callSpecial? (.int n t) (Str.ofString "__format__") [.str sp s.toks]) (wpAny_callSpecial?_slot (name := Str.ofString "__format__") (typeIs_int _ n t) slot_int_format
      (wpAny_call (codeAny_call_builtin slot_int_format.plain entry_int_format (slot_int_format.check _ _ _ _ _ _ _ _ (typeIs_int _ n t) (args_int_format _ _) ?_))))) hl)
    unfold Builtin.«int.__format__»
    simp only [selfAndOne, noKeywords, Int.intOfSelf, asInt?, asStr?, List.isEmpty_nil, if_true, pure_bind, bind_pure, bind_assoc, hne, hasc, Bool.false_eq_true, if_false, show (Value.str sp s.toks == Value.none) = false from rfl]
    refine wpAny_bind (wpAny_typeNameOf (T := "str") (typeIs_str _ _ _) (by decide) fun _ => wpAny_bind (cutName_int ?_))
    simp only [hp, g1]
    rw [if_pos (by decide)]
    show wpAny _ _ (ite _ _ _) _ _ _
    rw [if_neg (by simp [g2])]
    show wpAny _ _ (ite _ _ _) _ _ _
    rw [if_neg (by simp [g3])]
    show wpAny _ _ (ite _ _ _) _ _ _
    rw [if_neg (by decide)]
    show wpAny _ _ (Builtin.overDigitLimit? n >>= fun r => _) _ _ _
    rw [PySem.overDigitLimit_small hs]
    refine wpAny_bind (wpAny_pure ?_)
    show wpAny _ _ (ite _ _ _) _ _ _
    rw [if_neg (by simp; omega)]
    show wpAny _ _ (retStr _) _ _ _
    unfold retStr
    refine wpAny_bind (wpAny_mkStr (wpAny_pure ?_) ?sz)
    case sz =>
      simp only [g4, Bool.false_eq_true, if_false, show ((10 : Nat) == 10) = true by decide, if_true]
      conv => lhs; arg 1; whnf
      simp only [intSpecText, intField', g6, g7, g4, Bool.false_eq_true, if_false, show ((10 : Nat) == 10) = true by decide, if_true] at hlen ⊢
      exact hlen
    dsimp only
    refine wpAny_bind (wpAny_isInstance (typeIs_str _ _ _) isSubtype_str_str (wpAny_pure ?_))
    simp only [g4, Bool.false_eq_true, if_false, show ((10 : Nat) == 10) = true by decide, if_true]
    conv => arg 1; arg 1; whnf
    simp only [intSpecText, intField', g6, g7, g4, Bool.false_eq_true, if_false, show ((10 : Nat) == 10) = true by decide, if_true] at h ⊢
    exact h
/-- {x:..} of a text, where it is made longer -/
def strSpc (sp z : Str) : Option Str := if sp.length ≠ 0 ∧ ((sp.cps.toList.drop 1).any (· ≥ 128) || (sp.cps.getD 0 0 ≥ 128 && !([60, 62, 61, 94] : List Nat).contains (sp.cps.getD 1 0))) = false ∧ sp.cps.back? ≠ some 0 ∧ sp.length ≤ 1000 then (match parseFormatSpec sp.cps.toList "str" 60 with
  | .ok f => if f.width.getD 0 ≤ 1000 then (match Builtin.Str.strField z f "str" with
    | .ok (some r) => if r.length ≤ 100000 then some r else none
    | _ => none) else none
  | .error _ => none) else none
theorem typeName_text : typeName (.type "str") = pure "str" := by unfold typeName; rw [find?_eq_fast]; kernel_rfl
theorem cutName_str {m : Nat} {z : Str} {t : Tok} {Q : String → Shared → Prop} (h : Q "str" s) : wpAny (model prog w) A (typeNameOfCut m (.str z t)) Q E s := by
  unfold typeNameOfCut shownTypeOf
  refine wpAny_bind (wpAny_bind (wpAny_typeOf (typeIs_str _ z t) ?_))
  simp only [show (Value.type "str" == Value.type "builtin_function_or_method") = false by decide, Bool.false_eq_true, if_false]
  refine wpAny_pure ?_
  rw [show typeNameCut m (.type "str") = typeName (.type "str") from rfl, typeName_text]
  exact wpAny_pure h
theorem field_text {z r : Str} {t : Tok} {sp : Str} {Q : Value → Shared → Prop} (hr : strSpc sp z = some r) (hz : z.length ≤ sizeLine)
    (h : Q (.str r (s.toks + 1)) { s with toks := s.toks + 1 + 1 }) : wpAny (model prog w) A (formatField (.str z t) sp) Q E s := by
  unfold strSpc at hr
  split at hr
  case isFalse => cases hr
  rename_i hc
  obtain ⟨h0, hasc, hb, hl⟩ := hc
  cases hp : parseFormatSpec sp.cps.toList "str" 60 with
  | error m =>
    rw [hp] at hr
    cases hr
  | ok f =>
    simp only [hp] at hr
    split at hr
    case isFalse => cases hr
    rename_i hw
    split at hr
    case h_2 => cases hr
    rename_i r' hf
    split at hr
    case isFalse => cases hr
    rename_i hrl
    cases hr
    have hl2 : sp.length ≤ sizeLine := Nat.le_trans hl (by decide)
    have hrl2 : r.length ≤ sizeLine := Nat.le_trans hrl (by decide)
    have hne : (sp.length == 0) = false := by simpa using h0
    have hnb : (sp.cps.back? == some 0) = false := by simpa using hb
    have e : formatField (.str z t) sp = holding [.str z t] (pyFormat (.str z t) sp) := by
      unfold formatField
      simp only [hne, Bool.false_eq_true, if_false]
    rw [e]
    refine wpAny_holding ?_
    unfold pyFormat
    refine wpAny_bind (wpAny_mkStr (wpAny_bind (m := callSpecial? (.str z t) (Str.ofString "__format__") [.str sp s.toks]) (wpAny_callSpecial?_slot (name := Str.ofString "__format__") (typeIs_str _ z t) PySem.F.slot_str_format
      (wpAny_call (codeAny_call_builtin PySem.F.slot_str_format.plain PySem.F.entry_str_format (PySem.F.slot_str_format.check _ _ _ _ _ _ _ _ (typeIs_str _ z t) (PySem.F.args_str_format_2 _ _) ?_))))) hl2)
    unfold Builtin.«str.__format__»
    simp only [Builtin.Str.strOneArg, selfAndOne, noKeywords, Builtin.Str.textOf, asStr?, List.isEmpty_nil, if_true, pure_bind, bind_pure, bind_assoc, hne, hasc, Bool.false_eq_true, if_false]
    refine wpAny_bind (cutName_str ?_)
    have htl : Builtin.Str.tooLong (f.width.getD 0) = false := by
      have h5 : 1000 ≤ sizeLine := by decide
      unfold Builtin.Str.tooLong
      simp
      omega
    simp only [hp, hnb, Bool.and_false, Bool.false_eq_true, if_false, bind, Except.bind, htl, hf, pure, Except.pure]
    show wpAny _ _ (retStr r) _ _ _
    unfold retStr
    refine wpAny_bind (wpAny_mkStr (wpAny_pure ?_) hrl2)
    dsimp only
    refine wpAny_bind (wpAny_isInstance (typeIs_str _ _ _) isSubtype_str_str (wpAny_pure ?_))
    exact h
end
section
variable {X : Cx}
theorem pe_fmtS {e spec : Expr} {te : TE} {sp : Str} {pos : Pos} (he : PE X e te) (hs : PE X spec (fun _ H Q => Q (.str sp) H)) (hl : sp.length ≤ 1000) : PE X (.FormattedValue e (-1) (some spec) pos) (fun σ H Q => te σ H fun x H1 =>
    (∃ n : Int, x = .int n ∧ n.natAbs.log2 < 1920 ∧ PyProof.Rows.intSpecOk sp = true ∧ Q (.str (PyProof.Rows.intSpecTextOf sp n)) H1) ∨ ∃ z r : Str, x = .str z ∧ z.length ≤ sizeLine ∧ strSpc sp z = some r ∧ Q (.str r) H1) := by
  refine ⟨fun pins s σ H Q I h => ?_⟩
  refine wpAny_FormattedValue_spec (thn (he.run pins s σ H _ I h) fun v s1 hv => ?_)
  obtain ⟨x, H1, I1, r1, q⟩ := hv
  refine thn (hs.run pins s1 σ H1 (fun u H2 => u = .str sp ∧ H2 = H1) I1 ⟨rfl, rfl⟩) fun r s2 hr => ?_
  obtain ⟨_, _, I2, r2, rfl, rfl⟩ := hr
  obtain ⟨t, rfl⟩ := r2
  refine ⟨sp, t, rfl, ?_⟩
  rcases q with ⟨n, rfl, h1, h2, q⟩ | ⟨z, r, rfl, h1, h2, q⟩
  · obtain ⟨t', rfl⟩ := r1
    exact field_int h1 h2 (Nat.le_trans hl (by decide)) ⟨.str (PyProof.Rows.intSpecTextOf sp n), _, (I2.tok _).tok _, ⟨_, rfl⟩, q⟩
  · obtain ⟨t', rfl⟩ := r1
    exact field_text h2 h1 ⟨.str r, _, (I2.tok _).tok _, ⟨_, rfl⟩, q⟩
end
end Ip

set_option Elab.async false
set_option linter.all false
set_option maxRecDepth 100000
set_option maxHeartbeats 4000000
/-! The program's own text in short (IE, IS), and what it comes to over data. -/
namespace Ip
open PySem L2
inductive Cst where
  | non | bl (b : Bool) | int (i : Int) | str (s : Str)
inductive Bop where
  | add | sub | mul | fdv | mod | pow
inductive Bi where
  | len | int | str | tuple | list | all | any
inductive Ty where
  | int | bool | str | list | tuple
inductive Cop where
  | eq | ne | lt | le | gt | ge | isin | notin | isN | noN
/-- methods of texts -/
inductive M0 where
  | lower | upper
inductive M1 where
  | removeprefix | join
mutual
inductive IE where
  | var (i : Nat)
  | cst (c : Cst)
  | call (f : Str) (as : IEs)
  | bi (f : Bi) (as : IEs)
  | bin (o : Bop) (a b : IE)
  | cmp (o : Cop) (a b : IE)
  | and (a b : IE)
  | or (a b : IE)
  | not (a : IE)
  | neg (a : IE)
  | tup (es : IEs)
  | lst (es : IEs)
  | ix (a b : IE)
  | sl (a : IE) (lo hi : IO)
  | ifx (c a b : IE)
  | lc (j : Nat) (it : IT) (cs : IEs) (e : IE)
  | olen (i : Nat)
  | pix (i k : Nat)
  | pcel (i : Nat)
  | plen (i : Nat)
  | isi (t : Ty) (e : IE)
  | lent (is : List Nat) (e : IE)
  | chn (o1 o2 : Cop) (a b c : IE)
  | js (es : IEs)
  | rev (e : IE)
  | exf (j : Nat) (cs : List Str)
  | exi (j : Nat) (cs yes : List Str)
  | con (d : D)
  | qt (e : IE)
  | calld (f : Str) (as : IEs) (cs : List Cst)
  | me0 (m : M0) (e : IE)
  | me1 (m : M1) (a b : IE)
  | tsr (i : Nat)
  | clen (i : Nat)
  | cix (i : Nat) (e : IE)
  | stop
  | mx2 (a b : IE)
  | mn2 (a b : IE)
  | mxl (e : IE) (d : Option Int)
  | srt (e : IE)
  | tru (e : IE)
  | rep (a b : IE)
  | callx (f : Str) (as : IEs)
  | lentc (is : List Nat) (e : IE)
  | lcm (js : List Nat) (it : IT) (cs : IEs) (e : IE)
  | fmt (sp : Str) (e : IE)
  | kin (neg : Bool) (tab : List (Str × D)) (e : IE)
  | kget (tab : List (Str × D)) (e : IE)
  | mink (e ib : IE)
inductive IEs where
  | nil
  | cons (e : IE) (es : IEs)
  | pool (i : Nat) (es : IEs)
  | cell (i : Nat) (es : IEs)
  | newl (e : IE) (es : IEs)
  | newc (its es : IEs)
  | copy (i : Nat) (es : IEs)
inductive IO where
  | non
  | some (e : IE)
inductive IT where
  | seq (e : IE)
  | rng1 (e : IE)
  | rng2 (a b : IE)
  | rng3 (a b : IE)
  | enm (e : IE)
  | zp (a b : IE)
end
inductive Sg where
  | one (j : Nat)
  | many (js : List Nat)
mutual
inductive IS where
  | set (i : Nat) (e : IE)
  | own (i : Nat) (e : IE)
  | unp (js : List Nat) (e : IE)
  | app (i : Nat) (e : IE)
  | ext (i : Nat) (e : IE)
  | pput (i k : Nat) (e : IE)
  | iff (c : IE) (a b : ISs)
  | forr (j : Sg) (it : IT) (b : ISs)
  | ret (e : IE)
  | retN
  | drop (e : IE)
  | brk
  | cnt
  | frz (is : List Nat) (s : IS)
  | aug (i : Nat) (o : Bop) (e : IE)
  | stop
  | rse (c : Str) (e : IE)
  | tri (b : ISs) (cs : List Str) (j : Nat) (u : ISs)
  | calm (s : IS)
  | whl (c : IE)
  | ownl (is : List Nat) (j : Nat) (e : IE)
  | retf (e : IE)
  | dropc (f : Str) (as : IEs) (i : Nat)
  | setf (j : Nat) (f : Str) (as : IEs)
  | oset (i k : Nat) (e : IE)
  | capp (i : Nat) (e : IE)
  | cset (i j : Nat) (e : IE)
  | cnew (j : Nat) (e : IE) (r : ISs)
  | cal (j i m : Nat)
  | hid (j : Nat)
inductive ISs where
  | nil
  | cons (s : IS) (r : ISs)
end
/-! ### over data -/
abbrev Cl := Str → List (Option D) → Pl → Option (D × Pl)
def Cst.d : Cst → D
  | .non => .none
  | .bl b => .bool b
  | .int i => .int i
  | .str s => .str s
def most : Nat := 100000
def binD : Bop → D → D → Option D
  | .add, .int i, .int j => some (.int (i + j))
  | .add, .str s, .str t => if s.length + t.length ≤ most then some (.str (s ++ t)) else none
  | .add, .list xs, .list ys => if xs.length + ys.length ≤ most then some (.list (xs ++ ys)) else none
  | .add, .tuple xs, .tuple ys => if xs.length + ys.length ≤ most then some (.tuple (xs ++ ys)) else none
  | .sub, .int i, .int j => some (.int (i - j))
  | .mul, .int i, .int j => if i.natAbs < 2 ^ 64 ∨ j.natAbs < 2 ^ 64 then some (.int (i * j)) else none
  | .mul, .str s, .int k => if s.length = 1 ∧ -1000 ≤ k ∧ k ≤ 1000 then some (.str (repS s k)) else none
  | .fdv, .int i, .int j => if 0 < j ∧ j < 1073741824 then some (.int (i / j)) else none
  | .mod, .int i, .int j => if 0 < j then some (.int (i % j)) else none
  | .pow, .int i, .int j => if 0 ≤ j ∧ j ≤ 64 ∧ i.natAbs < 2 ^ 64 then some (.int (i ^ j.toNat)) else none
  | _, _, _ => none
def flatD : D → Bool
  | .none => true
  | .bool _ => true
  | .int _ => true
  | .str _ => true
  | _ => false
def memD (x : D) (ys : List D) : Bool := ys.any fun y => PyData.eqv y x
def inD (x : D) : D → Option Bool
  | .list ys => if flatD x = true ∧ ys.all flatD = true then some (memD x ys) else none
  | .tuple ys => if flatD x = true ∧ ys.all flatD = true then some (memD x ys) else none
  | .str t => match x with
    | .str s => if s.length = 1 then some (decide (s.cps.getD 0 0 ∈ t.cps.toList)) else none
    | _ => none
  | _ => none
def eqD : D → D → Option Bool
  | .str s, .str t => some (decide (s = t))
  | .int i, .int j => some (decide (i = j))
  | .bool a, .bool b => some (decide (a = b))
  | .int _, .str _ => some false
  | .str _, .int _ => some false
  | x, y => if SeqAt.shaped x = true ∧ SeqAt.shaped y = true then some (PyData.eqv x y) else none
def cmpD : Cop → D → D → Option Bool
  | .eq, x, y => eqD x y
  | .ne, x, y => (eqD x y).map (!·)
  | .lt, .int i, .int j => some (decide (i < j))
  | .le, .int i, .int j => some (decide (i ≤ j))
  | .gt, .int i, .int j => some (decide (j < i))
  | .ge, .int i, .int j => some (decide (j ≤ i))
  | .isin, x, y => inD x y
  | .notin, x, y => (inD x y).map (!·)
  | .isN, .none, .none => some true
  | .isN, _, .none => some false
  | .noN, .none, .none => some false
  | .noN, _, .none => some true
  | _, _, _ => none
def ixD : D → D → Option D
  | .list xs, .int i => atI xs i
  | .tuple xs, .int i => atI xs i
  | .str s, .int i => if s.length ≤ most then (atI s.cps.toList i).map fun c => .str ⟨#[c]⟩ else none
  | _, _ => none
def cutD (xs : List D) (lo hi : Option Int) : List D := (xs.drop (HT.sIx xs.length 0 lo)).take (HT.sIx xs.length xs.length hi - HT.sIx xs.length 0 lo)
def slD : D → Option Int → Option Int → Option D
  | .list xs, lo, hi => some (.list (cutD xs lo hi))
  | .tuple xs, lo, hi => some (.tuple (cutD xs lo hi))
  | .str s, lo, hi => if s.length ≤ most then some (.str (cutS s lo hi)) else none
  | _, _, _ => none
/-- truths alone -/
def boolsD : List D → Option (List Bool)
  | [] => some []
  | .bool b :: r => (boolsD r).map fun bs => b :: bs
  | _ => none
/-- what stands in an f-string -/
def partD : D → Option Str
  | .str s => if s.length ≤ most then some s else none
  | .int i => if i.natAbs.log2 < 1920 then some (Str.ofString (toString i)) else none
  | _ => none
def joinD : List D → Str → Option Str
  | [], acc => some acc
  | d :: r, acc => match partD d with
    | some s => if (acc ++ s).length ≤ most then joinD r (acc ++ s) else none
    | none => none
/-- the built-ins that are served -/
def biD : Bi → List D → Option D
  | .len, [.list xs] => some (.int xs.length)
  | .len, [.tuple xs] => some (.int xs.length)
  | .len, [.str s] => if s.length ≤ most then some (.int s.length) else none
  | .int, [.int i] => some (.int i)
  | .int, [.bool b] => some (.int (if b then 1 else 0))
  | .int, [.str s] => (match PySem.intText? s with
    | some n => if s.length ≤ 640 then some (.int n) else none
    | none => none)
  | .str, [.int i] => if i.natAbs.log2 < 1920 then some (.str (toString i)) else none
  | .tuple, [.list xs] => some (.tuple xs)
  | .tuple, [.tuple xs] => some (.tuple xs)
  | .list, [.list xs] => some (.list xs)
  | .list, [.tuple xs] => some (.list xs)
  | .all, [.list xs] => (boolsD xs).map fun bs => .bool (bs.all id)
  | .any, [.list xs] => (boolsD xs).map fun bs => .bool (bs.any id)
  | _, _ => none
/-- {x:..} in an f-string -/
def fmtD (sp : Str) : D → Option Str
  | .int n => if PyProof.Rows.intSpecOk sp = true ∧ n.natAbs.log2 < 1920 then some (PyProof.Rows.intSpecTextOf sp n) else none
  | .str s => if s.length ≤ most then strSpc sp s else none
  | _ => none
def itD : D → Option (List D)
  | .list xs => some xs
  | .tuple xs => some xs
  | _ => none
/-- a text, sign by sign -/
def signsD (s : Str) : List D := s.cps.toList.map fun c => PyData.str ⟨#[c]⟩
def itS : D → Option (List D)
  | .list xs => some xs
  | .tuple xs => some xs
  | .str s => some (signsD s)
  | _ => none
def m0D : M0 → D → Option D
  | .lower, .str s => if s.length ≤ most then some (.str (Txt.lower s)) else none
  | .upper, .str s => if s.length ≤ most then some (.str (Txt.upper s)) else none
  | _, _ => none
def strsD : List D → Option (List Str)
  | [] => some []
  | .str s :: ds => (strsD ds).map fun ss => s :: ss
  | _ => none
/-- texts in their order -/
def srtS (ss : List Str) : List Str := ss.mergeSort fun a b => !PySem.Spec.ltCps b.cps.toList a.cps.toList
def srtD (ds : List D) : Option D := match strsD ds with
  | some ss => if ss.length < 64 then some (.tuple ((srtS ss).map PyData.str)) else none
  | none => none
def m1D : M1 → D → D → Option D
  | .removeprefix, .str s, .str t => if s.length ≤ most then some (.str (Txt.removeprefix s t)) else none
  | .join, .str s, .list ds => (match strsD ds with
    | some ys => if (ys.map (·.length)).sum + ys.length * s.length ≤ 16777216 then some (.str (Txt.join s ys)) else none
    | none => none)
  | _, _, _ => none
def rngD (lo hi : Int) : Option (List D) := if -(2 ^ 62) ≤ lo ∧ lo < 2 ^ 62 ∧ -(2 ^ 62) ≤ hi ∧ hi < 2 ^ 62 then some ((List.range (hi - lo).toNat).map fun (k : Nat) => PyData.int (lo + (k : Int))) else none
def lcG (f : D → Pl → Option (Option D × Pl)) : List D → Pl → Option (List D × Pl)
  | [], st => some ([], st)
  | d :: ds, st => match f d st with
    | some (none, st1) => lcG f ds st1
    | some (some e, st1) => (match lcG f ds st1 with
      | some (es, st2) => some (e :: es, st2)
      | none => none)
    | none => none
def Pl.at_ (s : Pl) : Nat → Option Int
  | 1 => some s.i
  | 2 => some s.r
  | 3 => some s.c
  | 4 => some s.l
  | _ => none
def Pl.put (s : Pl) (n : Int) : Nat → Option Pl
  | 1 => some { s with i := n }
  | 2 => some { s with r := n }
  | 3 => some { s with c := n }
  | 4 => some { s with l := n }
  | _ => none
def isiD : Ty → D → Bool
  | .int, .int _ => true
  | .int, .bool _ => true
  | .bool, .bool _ => true
  | .str, .str _ => true
  | .list, .list _ => true
  | .tuple, .tuple _ => true
  | _, _ => false
/-- the greatest of whole numbers -/
def intsD : List D → Option (List Int)
  | [] => some []
  | .int n :: r => (intsD r).map fun ns => n :: ns
  | _ => none
def maxI : List Int → Option Int → Option Int
  | [], d => d
  | n :: ns, _ => some (ns.foldl max n)
/-- what can be put in order -/
def tupD : D → Bool
  | .tuple (_ :: _) => true
  | _ => false
def plnD : D → Bool
  | .none => false
  | .tuple _ => false
  | _ => true
def sortOk (ds : List D) : Bool := (ds.all fun d => ds.all fun e => PySem.W.alike d e) && (ds.all tupD || ds.all plnD) && decide (ds.length ≤ most) && ds.all fun d => decide (d.depth ≤ 50)
def srtA (ds : List D) : List D := ds.mergeSort (PySem.W.dataLe false id)
def truD : D → Option Bool
  | .list xs => some !xs.isEmpty
  | .tuple xs => some !xs.isEmpty
  | .int n => some (n != 0)
  | _ => none
/-- downwards -/
def rngN (lo hi : Int) : Option (List D) := if -(2 ^ 62) ≤ lo ∧ lo < 2 ^ 62 ∧ -(2 ^ 62) ≤ hi ∧ hi < 2 ^ 62 then some ((List.range (lo - hi).toNat).map fun (i : Nat) => PyData.int (lo - (i : Int))) else none
def enD : Nat → List D → List D
  | _, [] => []
  | k, d :: ds => .tuple [.int k, d] :: enD (k + 1) ds
def zpD (xs ys : List D) : List D := List.zipWith (fun x y => .tuple [x, y]) xs ys
def setMany : List Nat → List D → List Sl → Option (List Sl)
  | [], [], env => some env
  | j :: js, d :: ds, env => setMany js ds (env.set j (.im d))
  | _, _, _ => none
def frzS : Sl → Sl
  | .ow ds => .im (.list ds)
  | s => s
def frzE (env : List Sl) : List Nat → List Sl
  | [] => env
  | i :: is => frzE (env.modify i frzS) is
/-- a def that changes the list it is handed last, by this name -/
def ioN (f : Str) : Str := ⟨f.cps.push 64⟩
/-- what such a list may be made of -/
def cellD : List (Option D) → Option (List D)
  | [] => some []
  | some (.dict [(.none, .int k)]) :: r => (cellD r).map fun ds => .dict [(.none, .int k)] :: ds
  | some d :: r => if flatD d = true then (cellD r).map fun ds => d :: ds else none
  | none :: _ => none
/-- the lists that are handed about, as what they hold; the others out of sight -/
def calS (cs : List (List D)) : Sl → Sl
  | .ce _ => .no
  | s => s
def datS (cs : List (List D)) : Sl → Option Sl
  | .ce k => (match cs[k]? with
    | some ds => if ds.all flatD = true then some (.im (.list ds)) else none
    | none => none)
  | _ => none
def datE (cs : List (List D)) (env : List Sl) : List Nat → Option (List Sl)
  | [] => some (env.map (calS cs))
  | i :: is => (match datE cs env is with
    | some e1 => (match env[i]? with
      | some s => (datS cs s).map fun z => e1.set i z
      | none => none)
    | none => none)
/-! sameness of data -/
mutual
def sameD : D → D → Bool
  | .none, .none => true
  | .bool a, .bool b => decide (a = b)
  | .int a, .int b => decide (a = b)
  | .str a, .str b => decide (a = b)
  | .list xs, .list ys => sameDs xs ys
  | .tuple xs, .tuple ys => sameDs xs ys
  | .dict xs, .dict ys => samePs xs ys
  | _, _ => false
def sameDs : List D → List D → Bool
  | [], [] => true
  | x :: xs, y :: ys => sameD x y && sameDs xs ys
  | _, _ => false
def samePs : List (D × D) → List (D × D) → Bool
  | [], [] => true
  | (a, b) :: xs, (c, d) :: ys => sameD a c && (sameD b d && samePs xs ys)
  | _, _ => false
end
mutual
theorem sameD_refl : ∀ x : D, sameD x x = true
  | .none => rfl
  | .bool a => decide_eq_true rfl
  | .int a => decide_eq_true rfl
  | .str a => decide_eq_true rfl
  | .list xs => sameDs_refl xs
  | .tuple xs => sameDs_refl xs
  | .dict xs => samePs_refl xs
theorem sameDs_refl : ∀ x : List D, sameDs x x = true
  | [] => rfl
  | x :: xs => by
    unfold sameDs
    rw [sameD_refl x, sameDs_refl xs]
    rfl
theorem samePs_refl : ∀ x : List (D × D), samePs x x = true
  | [] => rfl
  | (a, b) :: xs => by
    unfold samePs
    rw [sameD_refl a, sameD_refl b, samePs_refl xs]
    rfl
end
mutual
theorem sameD_eq : ∀ x y : D, sameD x y = true → x = y
  | .none, y, h => by
    cases y <;> first | rfl | cases h
  | .bool a, y, h => by
    cases y <;> first | (rw [of_decide_eq_true h]; done) | cases h
  | .int a, y, h => by
    cases y <;> first | (rw [of_decide_eq_true h]; done) | cases h
  | .str a, y, h => by
    cases y <;> first | (rw [of_decide_eq_true h]; done) | cases h
  | .list xs, y, h => by
    cases y with
    | list ys => rw [sameDs_eq xs ys h]
    | _ => cases h
  | .tuple xs, y, h => by
    cases y with
    | tuple ys => rw [sameDs_eq xs ys h]
    | _ => cases h
  | .dict xs, y, h => by
    cases y with
    | dict ys => rw [samePs_eq xs ys h]
    | _ => cases h
theorem sameDs_eq : ∀ x y : List D, sameDs x y = true → x = y
  | [], y, h => by
    cases y with
    | nil => rfl
    | cons _ _ => cases h
  | x :: xs, y, h => by
    cases y with
    | nil => cases h
    | cons z zs =>
      have h : (sameD x z && sameDs xs zs) = true := h
      rw [Bool.and_eq_true] at h
      rw [sameD_eq x z h.1, sameDs_eq xs zs h.2]
theorem samePs_eq : ∀ x y : List (D × D), samePs x y = true → x = y
  | [], y, h => by
    cases y with
    | nil => rfl
    | cons _ _ => cases h
  | (a, b) :: xs, y, h => by
    cases y with
    | nil => cases h
    | cons z zs =>
      obtain ⟨c, d⟩ := z
      have h : (sameD a c && (sameD b d && samePs xs zs)) = true := h
      rw [Bool.and_eq_true, Bool.and_eq_true] at h
      rw [sameD_eq a c h.1, sameD_eq b d h.2.1, samePs_eq xs zs h.2.2]
end
def samC : List (List D) → List (List D) → Bool
  | [], [] => true
  | x :: xs, y :: ys => sameDs x y && samC xs ys
  | _, _ => false
theorem samC_refl : ∀ x : List (List D), samC x x = true
  | [] => rfl
  | x :: xs => by
    unfold samC
    rw [sameDs_refl x, samC_refl xs]
    rfl
theorem samC_eq : ∀ x y : List (List D), samC x y = true → x = y
  | [], y, h => by
    cases y with
    | nil => rfl
    | cons _ _ => cases h
  | x :: xs, y, h => by
    cases y with
    | nil => cases h
    | cons z zs =>
      have h : (sameDs x z && samC xs zs) = true := h
      rw [Bool.and_eq_true] at h
      rw [sameDs_eq x z h.1, samC_eq xs zs h.2]
def Pl.same (a b : Pl) : Bool := decide (a.ns = b.ns) && (decide (a.i = b.i) && (decide (a.r = b.r) && (decide (a.c = b.c) && (decide (a.l = b.l) && samC a.cs b.cs))))
theorem Pl.same_refl (a : Pl) : a.same a = true := by
  unfold Pl.same
  simp [samC_refl]
theorem Pl.same_eq {a b : Pl} (h : a.same b = true) : a = b := by
  unfold Pl.same at h
  simp only [Bool.and_eq_true, decide_eq_true_eq] at h
  obtain ⟨h1, h2, h3, h4, h5, h6⟩ := h
  cases a
  cases b
  have := samC_eq _ _ h6
  simp_all
/-- the keys of a list's items, one by one; the pool stays -/
def keysK (f : D → Option (D × Pl)) (st : Pl) : List D → Option (List Int)
  | [] => some []
  | d :: ds => match f d with
    | some (.int k, st') => if st'.same st = true then (keysK f st ds).map fun ks => k :: ks else none
    | _ => none
/-- the first item whose key is the least -/
def minG : D → Int → List D → List Int → D
  | b, kb, d :: ds, k :: ks => if k < kb then minG d k ds ks else minG b kb ds ks
  | b, _, _, _ => b
def minK : List D → List Int → Option D
  | d :: ds, k :: ks => some (minG d k ds ks)
  | _, _ => none
mutual
def ev (cl : Cl) : IE → List Sl → Pl → Option (D × Pl)
  | .var i, env, st => (match env[i]? with
    | some (.im d) => some (d, st)
    | _ => none)
  | .cst c, _, st => some (c.d, st)
  | .call f as, env, st => (match ag cl as env st with
    | some (ds, st1) => cl f ds st1
    | none => none)
  | .bi f as, env, st => (match ea cl as env st with
    | some (ds, st1) => (biD f ds).map fun d => (d, st1)
    | none => none)
  | .bin o a b, env, st => (match ev cl a env st with
    | some (x, st1) => (match ev cl b env st1 with
      | some (y, st2) => (binD o x y).map fun d => (d, st2)
      | none => none)
    | none => none)
  | .cmp o a b, env, st => (match ev cl a env st with
    | some (x, st1) => (match ev cl b env st1 with
      | some (y, st2) => (cmpD o x y).map fun d => (.bool d, st2)
      | none => none)
    | none => none)
  | .and a b, env, st => (match ev cl a env st with
    | some (.bool true, st1) => ev cl b env st1
    | some (.bool false, st1) => some (.bool false, st1)
    | _ => none)
  | .or a b, env, st => (match ev cl a env st with
    | some (.bool true, st1) => some (.bool true, st1)
    | some (.bool false, st1) => ev cl b env st1
    | _ => none)
  | .not a, env, st => (match ev cl a env st with
    | some (.bool b, st1) => some (.bool (!b), st1)
    | _ => none)
  | .neg a, env, st => (match ev cl a env st with
    | some (.int i, st1) => some (.int (-i), st1)
    | _ => none)
  | .tup es, env, st => (match ea cl es env st with
    | some (ds, st1) => if ds.length ≤ most then some (.tuple ds, st1) else none
    | none => none)
  | .lst es, env, st => (match ea cl es env st with
    | some (ds, st1) => if ds.length ≤ most then some (.list ds, st1) else none
    | none => none)
  | .ix a b, env, st => (match ev cl a env st with
    | some (x, st1) => (match ev cl b env st1 with
      | some (y, st2) => (ixD x y).map fun d => (d, st2)
      | none => none)
    | none => none)
  | .sl a lo hi, env, st => (match ev cl a env st with
    | some (x, st1) => (match eo cl lo env st1 with
      | some (l, st2) => (match eo cl hi env st2 with
        | some (h, st3) => (slD x l h).map fun d => (d, st3)
        | none => none)
      | none => none)
    | none => none)
  | .ifx c a b, env, st => (match ev cl c env st with
    | some (.bool true, st1) => ev cl a env st1
    | some (.bool false, st1) => ev cl b env st1
    | _ => none)
  | .lc j it cs e, env, st => (match ei cl it env st with
    | some (ds, st1) => if ds.length ≤ most then (match lcG (fun d st => match et cl cs (env.set j (.im d)) st with
        | some (true, st2) => (match ev cl e (env.set j (.im d)) st2 with
          | some (y, st3) => some (some y, st3)
          | none => none)
        | some (false, st2) => some (none, st2)
        | none => none) ds st1 with
      | some (ys, st4) => some (.list ys, st4)
      | none => none) else none
    | none => none)
  | .olen i, env, st => (match env[i]? with
    | some (.ow ds) => some (.int ds.length, st)
    | some (.im d) => (biD .len [d]).map fun z => (z, st)
    | _ => none)
  | .pix i k, env, st => (match env[i]? with
    | some .pl => (st.at_ k).map fun n => (.int n, st)
    | _ => none)
  | .pcel i, env, st => (match env[i]? with
    | some .pl => (atI st.ns st.i).map fun n => (.int n, st)
    | _ => none)
  | .isi t e, env, st => (match ev cl e env st with
    | some (x, st1) => some (.bool (isiD t x), st1)
    | none => none)
  | .lent is e, env, st => (match ev cl e (frzE env is) st with
    | some (x, st1) => if flatD x = true then some (x, st1) else none
    | none => none)
  | .chn o1 o2 a b c, env, st => (match ev cl a env st with
    | some (x, st1) => (match ev cl b env st1 with
      | some (y, st2) => (match cmpD o1 x y with
        | some true => (match ev cl c env st2 with
          | some (z, st3) => (cmpD o2 y z).map fun d => (.bool d, st3)
          | none => none)
        | some false => some (.bool false, st2)
        | none => none)
      | none => none)
    | none => none)
  | .js es, env, st => (match ea cl es env st with
    | some (ds, st1) => (joinD ds Str.empty).map fun s => (.str s, st1)
    | none => none)
  | .rev e, env, st => (match ev cl e env st with
    | some (.list xs, st1) => some (.list xs.reverse, st1)
    | _ => none)
  | .con d, _, st => some (d, st)
  | .qt e, env, st => ev cl e env st
  | .calld f as cs, env, st => (match ag cl as env st with
    | some (ds, st1) => cl f (ds ++ cs.map fun c => some c.d) st1
    | none => none)
  | .me0 m e, env, st => (match ev cl e env st with
    | some (x, st1) => (m0D m x).map fun d => (d, st1)
    | none => none)
  | .me1 m a b, env, st => (match ev cl a env st with
    | some (x, st1) => (match ev cl b env st1 with
      | some (y, st2) => (m1D m x y).map fun d => (d, st2)
      | none => none)
    | none => none)
  | .exf j cs, env, st => (match env[j]? with
    | some (.er c v) => if c ∈ cs then some (v, st) else none
    | _ => none)
  | .exi j cs yes, env, st => (match env[j]? with
    | some (.er c _) => if c ∈ cs then some (.bool (decide (c ∈ yes)), st) else none
    | _ => none)
  | .tsr i, env, st => (match env[i]? with
    | some (.ow ds) => (srtD ds).map fun z => (z, st)
    | _ => none)
  | .callx f as, env, st => (match agx cl as env st with
    | some (ds, st1) => (match cl f ds st1 with
      | some (d, st2) => some (d, { st2 with cs := st2.cs.take st.cs.length })
      | none => none)
    | none => none)
  | .lentc is e, env, st => (match datE st.cs env is with
    | some env1 => (match ev cl e env1 { st with cs := [] } with
      | some (x, st1) => if flatD x = true then some (x, { st1 with cs := st.cs }) else none
      | none => none)
    | none => none)
  | .clen i, env, st => (match env[i]? with
    | some (.ce k) => (match st.cs[k]? with
      | some ds => some (.int ds.length, st)
      | none => none)
    | _ => none)
  | .cix i e, env, st => (match ev cl e env st with
    | some (.int n, st1) => (match env[i]? with
      | some (.ce k) => (match st1.cs[k]? with
        | some ds => (match atI ds n with
          | some d => if flatD d = true then some (d, st1) else none
          | none => none)
        | none => none)
      | _ => none)
    | _ => none)
  | .stop, _, _ => none
  | .mx2 a b, env, st => (match ev cl a env st with
    | some (.int x, st1) => (match ev cl b env st1 with
      | some (.int y, st2) => some (.int (if y > x then y else x), st2)
      | _ => none)
    | _ => none)
  | .mn2 a b, env, st => (match ev cl a env st with
    | some (.int x, st1) => (match ev cl b env st1 with
      | some (.int y, st2) => some (.int (if y < x then y else x), st2)
      | _ => none)
    | _ => none)
  | .mxl e d, env, st => (match ev cl e env st with
    | some (.list xs, st1) => (match intsD xs with
      | some ns => (maxI ns d).map fun n => (.int n, st1)
      | none => none)
    | _ => none)
  | .srt e, env, st => (match ev cl e env st with
    | some (.list xs, st1) => if sortOk xs = true then some (.list (srtA xs), st1) else none
    | _ => none)
  | .tru e, env, st => (match ev cl e env st with
    | some (x, st1) => (truD x).map fun b => (.bool b, st1)
    | none => none)
  | .rep a b, env, st => (match ev cl a env st with
    | some (.list xs, st1) => (match ev cl b env st1 with
      | some (.int k, st2) => if -(2 ^ 62) ≤ k ∧ k < 2 ^ 62 ∧ xs.length * k.toNat ≤ most then some (.list (List.replicate k.toNat xs).flatten, st2) else none
      | _ => none)
    | _ => none)
  | .lcm js it cs e, env, st => (match ei cl it env st with
    | some (ds, st1) => if ds.length ≤ most then (match lcG (fun d st => match itD d with
        | some zs => (match setMany js zs env with
          | some env1 => (match et cl cs env1 st with
            | some (true, st2) => (match ev cl e env1 st2 with
              | some (y, st3) => some (some y, st3)
              | none => none)
            | some (false, st2) => some (none, st2)
            | none => none)
          | none => none)
        | none => none) ds st1 with
      | some (ys, st4) => some (.list ys, st4)
      | none => none) else none
    | none => none)
  | .plen i, env, st => (match env[i]? with
    | some .pl => some (.int st.ns.length, st)
    | _ => none)
  | .fmt sp e, env, st => (match ev cl e env st with
    | some (x, st1) => (fmtD sp x).map fun s => (.str s, st1)
    | none => none)
  | .kin neg tab e, env, st => (match ev cl e env st with
    | some (.str s, st1) => some (.bool (neg != (tab.lookup s).isSome), st1)
    | _ => none)
  | .kget tab e, env, st => (match ev cl e env st with
    | some (.str s, st1) => (tab.lookup s).map fun d => (d, st1)
    | _ => none)
  | .mink e ib, env, st => (match ev cl e env st with
    | some (.list xs, st1) => (match keysK (fun d => ev cl ib [.im d] st1) st1 xs with
      | some ks => (minK xs ks).map fun d => (d, st1)
      | none => none)
    | _ => none)
def ea (cl : Cl) : IEs → List Sl → Pl → Option (List D × Pl)
  | .nil, _, st => some ([], st)
  | .cons e es, env, st => (match ev cl e env st with
    | some (x, st1) => (match ea cl es env st1 with
      | some (xs, st2) => some (x :: xs, st2)
      | none => none)
    | none => none)
  | .pool _ _, _, _ => none
  | .cell _ _, _, _ => none
  | .newl _ _, _, _ => none
  | .newc _ _, _, _ => none
  | .copy _ _, _, _ => none
def ag (cl : Cl) : IEs → List Sl → Pl → Option (List (Option D) × Pl)
  | .nil, _, st => some ([], st)
  | .cons e es, env, st => (match ev cl e env st with
    | some (x, st1) => (match ag cl es env st1 with
      | some (xs, st2) => some (some x :: xs, st2)
      | none => none)
    | none => none)
  | .pool i es, env, st => (match env[i]? with
    | some .pl => (match ag cl es env st with
      | some (xs, st2) => some (none :: xs, st2)
      | none => none)
    | _ => none)
  | .cell i es, env, st => (match env[i]? with
    | some (.ce k) => (match ag cl es env st with
      | some (xs, st2) => some (some (handle k) :: xs, st2)
      | none => none)
    | _ => none)
  | .newl _ _, _, _ => none
  | .newc _ _, _, _ => none
  | .copy _ _, _, _ => none
def agx (cl : Cl) : IEs → List Sl → Pl → Option (List (Option D) × Pl)
  | .nil, _, st => some ([], st)
  | .cons e es, env, st => (match ev cl e env st with
    | some (x, st1) => (match agx cl es env st1 with
      | some (xs, st2) => some (some x :: xs, st2)
      | none => none)
    | none => none)
  | .pool i es, env, st => (match env[i]? with
    | some .pl => (match agx cl es env st with
      | some (xs, st2) => some (none :: xs, st2)
      | none => none)
    | _ => none)
  | .cell i es, env, st => (match env[i]? with
    | some (.ce k) => (match agx cl es env st with
      | some (xs, st2) => some (some (handle k) :: xs, st2)
      | none => none)
    | _ => none)
  | .newl e es, env, st => (match ev cl e env st with
    | some (.list ds, st1) => if ds.all flatD = true then (match agx cl es env { st1 with cs := st1.cs ++ [ds] } with
      | some (xs, st2) => some (some (handle st1.cs.length) :: xs, st2)
      | none => none) else none
    | _ => none)
  | .newc its es, env, st => (match agx cl its env st with
    | some (os, st1) => (match cellD os with
      | some ds => if ds.length ≤ most then (match agx cl es env { st1 with cs := st1.cs ++ [ds] } with
        | some (xs, st2) => some (some (handle st1.cs.length) :: xs, st2)
        | none => none) else none
      | none => none)
    | none => none)
  | .copy i es, env, st => (match env[i]? with
    | some (.ce k) => (match st.cs[k]? with
      | some ds => if ds.all flatD = true then (match agx cl es env { st with cs := st.cs ++ [ds] } with
        | some (xs, st2) => some (some (handle st.cs.length) :: xs, st2)
        | none => none) else none
      | none => none)
    | _ => none)
/-- tests in a row, all to be True -/
def et (cl : Cl) : IEs → List Sl → Pl → Option (Bool × Pl)
  | .nil, _, st => some (true, st)
  | .cons e es, env, st => (match ev cl e env st with
    | some (.bool true, st1) => et cl es env st1
    | some (.bool false, st1) => some (false, st1)
    | _ => none)
  | .pool _ _, _, _ => none
  | .cell _ _, _, _ => none
  | .newl _ _, _, _ => none
  | .newc _ _, _, _ => none
  | .copy _ _, _, _ => none
def eo (cl : Cl) : IO → List Sl → Pl → Option (Option Int × Pl)
  | .non, _, st => some (none, st)
  | .some e, env, st => (match ev cl e env st with
    | some (.int i, st1) => some (some i, st1)
    | _ => none)
def ei (cl : Cl) : IT → List Sl → Pl → Option (List D × Pl)
  | .seq e, env, st => (match ev cl e env st with
    | some (x, st1) => (itS x).map fun xs => (xs, st1)
    | none => none)
  | .rng1 e, env, st => (match ev cl e env st with
    | some (.int n, st1) => (rngD 0 n).map fun xs => (xs, st1)
    | _ => none)
  | .rng2 a b, env, st => (match ev cl a env st with
    | some (.int lo, st1) => (match ev cl b env st1 with
      | some (.int hi, st2) => (rngD lo hi).map fun xs => (xs, st2)
      | _ => none)
    | _ => none)
  | .rng3 a b, env, st => (match ev cl a env st with
    | some (.int lo, st1) => (match ev cl b env st1 with
      | some (.int hi, st2) => (rngN lo hi).map fun xs => (xs, st2)
      | _ => none)
    | _ => none)
  | .enm e, env, st => (match ev cl e env st with
    | some (x, st1) => (itD x).map fun xs => (enD 0 xs, st1)
    | none => none)
  | .zp a b, env, st => (match ev cl a env st with
    | some (x, st1) => (match ev cl b env st1 with
      | some (y, st2) => (match itD x with
        | some xs => (itD y).map fun ys => (zpD xs ys, st2)
        | none => none)
      | none => none)
    | none => none)
end
/-- what a call raises stands beside what it returns, by this name; an error as data: its class, its field -/
def bang (f : Str) : Str := ⟨f.cps.push 33⟩
abbrev Er := Str × D
def erD : Er → D
  | (c, v) => .tuple [.str c, v]
def erOf : D → Option Er
  | .tuple [.str c, v] => some (c, v)
  | _ => none
/-- what an own error's field may be -/
def errOk : D → Bool
  | .str s => decide (s.length ≤ 1000)
  | .int i => decide (i.natAbs.log2 < 1920) && decide ((toString i : String).toList.length ≤ 1000)
  | _ => false
/-- what an expression raises -/
def xv (cl : Cl) : IE → List Sl → Pl → Option (Er × Pl)
  | .call f as, env, st => (match ag cl as env st with
    | some (ds, st1) => (match cl (bang f) ds st1 with
      | some (d, st2) => (erOf d).map fun er => (er, st2)
      | none => none)
    | none => none)
  | .calld f as cs, env, st => (match ag cl as env st with
    | some (ds, st1) => (match cl (bang f) (ds ++ cs.map fun c => some c.d) st1 with
      | some (d, st2) => (erOf d).map fun er => (er, st2)
      | none => none)
    | none => none)
  | .bin _ a b, env, st => (match xv cl a env st with
    | some r => some r
    | none => (match ev cl a env st with
      | some (_, st1) => xv cl b env st1
      | none => none))
  | .cmp _ a b, env, st => (match xv cl a env st with
    | some r => some r
    | none => (match ev cl a env st with
      | some (_, st1) => xv cl b env st1
      | none => none))
  | .not a, env, st => xv cl a env st
  | .lent is e, env, st => xv cl e (frzE env is) st
  | _, _, _ => none
inductive Out where
  | nx (env : List Sl) (st : Pl)
  | rt (d : D) (st : Pl)
  | bk (env : List Sl) (st : Pl)
  | ct (env : List Sl) (st : Pl)
def sgD (j : Sg) (d : D) (env : List Sl) : Option (List Sl) := match j with
  | .one j => some (env.set j (.im d))
  | .many js => (match itD d with
    | some ds => setMany js ds env
    | none => none)
def forG (f : D → List Sl → Pl → Option Out) : List D → List Sl → Pl → Option Out
  | [], env, st => some (.nx env st)
  | d :: ds, env, st => match f d env st with
    | some (.nx e s) => forG f ds e s
    | some (.ct e s) => forG f ds e s
    | some (.bk e s) => some (.nx e s)
    | some (.rt v s) => some (.rt v s)
    | none => none
/-- a name goes, and no caught error is spoken of -/
def cln : Sl → Sl
  | .er _ _ => .no
  | s => s
def clnE (j : Nat) (env : List Sl) : List Sl := (env.map cln).set j .no
def Out.un (j : Nat) : Out → Out
  | .nx env st => .nx (clnE j env) st
  | .rt d st => .rt d st
  | .bk env st => .bk (clnE j env) st
  | .ct env st => .ct (clnE j env) st
/-- the lists made behind the first n are forgotten -/
def unc (n : Nat) : Sl → Sl
  | .ce k => if k < n then .ce k else .no
  | s => s
def Out.unc (n : Nat) : Out → Out
  | .nx env st => .nx (env.map (Ip.unc n)) { st with cs := st.cs.take n }
  | .rt d st => .rt d { st with cs := st.cs.take n }
  | .bk env st => .bk (env.map (Ip.unc n)) { st with cs := st.cs.take n }
  | .ct env st => .ct (env.map (Ip.unc n)) { st with cs := st.cs.take n }
mutual
def evS (cl : Cl) : IS → List Sl → Pl → Option Out
  | .set i e, env, st => (match ev cl e env st with
    | some (x, st1) => some (.nx (env.set i (.im x)) st1)
    | none => none)
  | .own i e, env, st => (match ev cl e env st with
    | some (.list xs, st1) => some (.nx (env.set i (.ow xs)) st1)
    | _ => none)
  | .unp js e, env, st => (match ev cl e env st with
    | some (x, st1) => (sgD (.many js) x env).map fun env1 => .nx env1 st1
    | none => none)
  | .app i e, env, st => (match ev cl e env st with
    | some (x, st1) => (match env[i]? with
      | some (.ow ds) => if ds.length < most then some (.nx (env.set i (.ow (ds ++ [x]))) st1) else none
      | _ => none)
    | none => none)
  | .ext i e, env, st => (match ev cl e env st with
    | some (x, st1) => (match itD x with
      | some xs => (match env[i]? with
        | some (.ow ds) => if ds.length + xs.length ≤ most then some (.nx (env.set i (.ow (ds ++ xs))) st1) else none
        | _ => none)
      | none => none)
    | none => none)
  | .pput i k e, env, st => (match ev cl e env st with
    | some (.int n, st1) => (match env[i]? with
      | some .pl => (st1.put n k).map fun st2 => .nx env st2
      | _ => none)
    | _ => none)
  | .iff c a b, env, st => (match ev cl c env st with
    | some (.bool true, st1) => evSs cl a env st1
    | some (.bool false, st1) => evSs cl b env st1
    | _ => none)
  | .forr j it b, env, st => (match ei cl it env st with
    | some (ds, st1) => forG (fun d env st => match sgD j d env with
        | some env1 => evSs cl b env1 st
        | none => none) ds env st1
    | none => none)
  | .ret e, env, st => (match ev cl e env st with
    | some (x, st1) => some (.rt x st1)
    | none => none)
  | .retN, _, st => some (.rt .none st)
  | .retf e, env, st => (match ev cl e env st with
    | some (.list xs, st1) => some (.rt (.list xs) st1)
    | _ => none)
  | .dropc f as i, env, st => (match ag cl as env st with
    | some (ds, st1) => (match env[i]? with
      | some (.ow xs) => (match cl (ioN f) (ds ++ [some (.list xs)]) st1 with
        | some (.list out, st2) => some (.nx (env.set i (.ow out)) st2)
        | _ => none)
      | _ => none)
    | none => none)
  | .setf j f as, env, st => (match ag cl as env st with
    | some (ds, st1) => (match cl f ds st1 with
      | some (.none, st2) => some (.nx (env.set j (.im .none)) st2)
      | some (.list xs, st2) => some (.nx (env.set j (.ow xs)) st2)
      | _ => none)
    | none => none)
  | .oset i k e, env, st => (match ev cl e env st with
    | some (x, st1) => (match env[i]? with
      | some (.ow ds) => if k < ds.length then some (.nx (env.set i (.ow (ds.set k x))) st1) else none
      | _ => none)
    | none => none)
  | .drop e, env, st => (match ev cl e env st with
    | some (_, st1) => some (.nx env st1)
    | none => none)
  | .brk, env, st => some (.bk env st)
  | .cnt, env, st => some (.ct env st)
  | .frz is s, env, st => evS cl s (frzE env is) st
  | .aug i o e, env, st => (match env[i]? with
    | some (.im (.int m)) => (match ev cl e env st with
      | some (.int n, st1) => (match binD o (.int m) (.int n) with
        | some d => some (.nx (env.set i (.im d)) st1)
        | none => none)
      | _ => none)
    | _ => none)
  | .stop, _, _ => none
  | .rse _ _, _, _ => none
  | .calm s, env, st => evS cl s env st
  | .capp i e, env, st => (match ev cl e env st with
    | some (x, st1) => (match env[i]? with
      | some (.ce k) => (match st1.cs[k]? with
        | some ds => if flatD x = true ∧ ds.length < most then some (.nx env { st1 with cs := st1.cs.set k (ds ++ [x]) }) else none
        | none => none)
      | _ => none)
    | none => none)
  | .cset i j e, env, st => (match ev cl e env st with
    | some (x, st1) => (match env[i]? with
      | some (.ce k) => (match st1.cs[k]? with
        | some ds => if flatD x = true ∧ j < ds.length then some (.nx env { st1 with cs := st1.cs.set k (ds.set j x) }) else none
        | none => none)
      | _ => none)
    | none => none)
  | .cal j i m, env, st => (match env[i]? with
    | some (.ce k) => (match st.cs[k]? with
      | some ds => (match ds[m]? with
        | some (.dict [(.none, .int n)]) => some (.nx (env.set j (.ce n.toNat)) st)
        | _ => none)
      | none => none)
    | _ => none)
  | .cnew j e r, env, st => (match ev cl e env st with
    | some (.list ds, st1) => if ds.all flatD = true then (match evSs cl r (env.set j (.ce st1.cs.length)) { st1 with cs := st1.cs ++ [ds] } with
      | some o => some (o.unc st1.cs.length)
      | none => none) else none
    | _ => none)
  | .whl c, env, st => (match ev cl c env st with
    | some (.bool false, st1) => some (.nx env st1)
    | _ => none)
  | .ownl is j e, env, st => (match ev cl e (frzE env is) st with
    | some (.list xs, st1) => if xs.all flatD = true then some (.nx (env.set j (.ow xs)) st1) else none
    | _ => none)
  | .tri b cs j u, env, st => (match evSs cl b env st with
    | some o => some o
    | none => (match xvSs cl b env st with
      | some ((c, v), env1, st1) => if c ∈ cs then (match evSs cl u (env1.set j (.er c v)) st1 with
          | some o => some (o.un j)
          | none => none) else none
      | none => none))
  | .hid j, env, st => some (.nx (env.set j .no) st)
def evSs (cl : Cl) : ISs → List Sl → Pl → Option Out
  | .nil, env, st => some (.nx env st)
  | .cons s r, env, st => (match evS cl s env st with
    | some (.nx env1 st1) => evSs cl r env1 st1
    | some o => some o
    | none => none)
/-- what a statement raises -/
def xvS (cl : Cl) : IS → List Sl → Pl → Option (Er × List Sl × Pl)
  | .set _ e, env, st => (xv cl e env st).map fun r => (r.1, env, r.2)
  | .ret e, env, st => (xv cl e env st).map fun r => (r.1, env, r.2)
  | .drop e, env, st => (xv cl e env st).map fun r => (r.1, env, r.2)
  | .app i e, env, st => (match env[i]? with
    | some (.ow _) => (xv cl e env st).map fun r => (r.1, env, r.2)
    | _ => none)
  | .rse c e, env, st => (match ev cl e env st with
    | some (v, st1) => if errOk v = true then some ((c, v), env, st1) else none
    | none => none)
  | .iff c a b, env, st => (match ev cl c env st with
    | some (.bool true, st1) => xvSs cl a env st1
    | some (.bool false, st1) => xvSs cl b env st1
    | _ => none)
  | .tri b cs _ _, env, st => (match xvSs cl b env st with
    | some r => if r.1.1 ∈ cs then none else some r
    | none => none)
  | _, _, _ => none
def xvSs (cl : Cl) : ISs → List Sl → Pl → Option (Er × List Sl × Pl)
  | .nil, _, _ => none
  | .cons s r, env, st => (match xvS cl s env st with
    | some x => some x
    | none => (match evS cl s env st with
      | some (.nx env1 st1) => xvSs cl r env1 st1
      | _ => none))
end
def slOf : Option D → Sl
  | some (.dict [(.none, .int k)]) => .ce k.toNat
  | some d => .im d
  | none => .pl
theorem slOf_rp {K : PySem.W.Frag} {B : Hp} {v : V} {d : D} (h : Rp K B v d) : slOf (some d) = .im d := by cases h <;> rfl
theorem slOf_ow {d : Option D} {ds : List D} : slOf d ≠ .ow ds := fun h => by
  unfold slOf at h
  split at h <;> cases h
theorem slOf_handle (k : Nat) : slOf (some (handle k)) = .ce k := rfl
/-- a def: how many names, its body -/
structure IF where
  n : Nat
  body : ISs
def runF (cl : Cl) (f : IF) (as : List (Option D)) (st : Pl) : Option (D × Pl) :=
  match evSs cl f.body (as.map slOf ++ List.replicate (f.n - as.length) .no) st with
  | some (.rt d st1) => some (d, st1)
  | some (.nx _ st1) => some (.none, st1)
  | _ => none
/-- the same for a def that changes its last list -/
def runO (cl : Cl) (f : IF) (as : List (Option D)) (st : Pl) : Option (D × Pl) :=
  match as.getLast? with
  | some (some (.list ds)) => (match evSs cl f.body (as.dropLast.map slOf ++ .ow ds :: List.replicate (f.n - as.length) .no) st with
    | some (.nx env st1) => (match env[as.length - 1]? with
      | some (.ow out) => some (.list out, st1)
      | _ => none)
    | _ => none)
  | _ => none
end Ip

set_option Elab.async false
set_option linter.all false
set_option maxRecDepth 100000
set_option maxHeartbeats 4000000
namespace Ip
open PySem L2 PySem.W
/-! An own error's making: super().__init__(..) inside its __init__. -/
section
variable {X : Cx} {pins : List (Addr × Obj)} {σ : L2.St} {H : Hp} {s : Shared} {x : Str} {i : Nat} {v : V} {E : Value → Shared → Prop}
theorem lv {Q : Value → Shared → Prop} (I : Inv X pins σ H s) (hN : X.N[i]? = some x) (hv : Vis X.env.scope x) (hσ : σ[i]? = some (some v)) (hcd : (x == ("__classdict__" : Str)) = false) (h : ∀ u, RelV v u → Q u s) : wpAny (model X.prog X.w) X.A (loadName X.env x) Q E s := by
  obtain ⟨m, hn, hl⟩ := I.loc
  obtain ⟨u, r, l⟩ := hl i x v hN hσ hv
  have fin : Q u s := h u r
  rcases l with ⟨hk, hm⟩ | ⟨hk, c, hc, hcell⟩
  · exact wpAny_loadName_local I.ok.kind hk hn hm fin
  · rcases hk with hk | hk
    · exact wpAny_loadName_cell I.ok.kind hk hc hcell fin
    · exact wpAny_loadName_free I.ok.kind hk hc hcell fin hcd
/-- what is known of a def whose class cell is there, and of the file -/
structure SupF (X : Cx) (f C : Addr) (sn : Str) : Prop where
  func : X.env.func = some f
  ks : X.env.kindOf "super" = some .globalImplicit
  kc : X.env.kindOf "__class__" = some .free
  fn : ∃ of fd ar, X.K.lookup f = some of ∧ of.data = .func fd ∧ (fd.params.posonlyargs ++ fd.params.args).head? = some ar ∧ ar.arg = sn
  code : ∃ cda oc vs file tf, X.env.code = .ref cda ∧ X.K.lookup cda = some oc ∧ oc.data = .fields vs ∧ vs[2]? = some (.str file tf) ∧ ((X.prog.main.file : Str) == file) = true
  top : (X.prog.main.scope.names.lookup ("super" : Str)).isSome = false
  nos : X.mg "super" = none
  noo : nsIn X.K cStatics "thirdparty.any" = some none
  cls : (clsIn X.K C).isSome = true
  sub : mroIn X.K C (.ref C) = some true
theorem sup_at {body : List Stmt} {f C a : Addr} {self : Str} {i j : Nat} {p0 p1 : Pos} {whole : Sem Value} {Q : Value → Shared → Prop} {ox : Obj} {od : Option Obj} (F : SupF X f C self) (I : Inv X pins σ H s)
    (hN : X.N[i]? = some self) (hv : Vis X.env.scope self) (hσ : σ[i]? = some (some (.ref a))) (hcd : (self == ("__classdict__" : Str)) = false)
    (hN2 : X.N[j]? = some ("__class__" : Str)) (hσ2 : σ[j]? = some (some (.ref C))) (IA : InstAt s.heap a ox C od)
    (h : ∀ so s', Inv X pins σ H s' → s'.heap.get? so = some { cls := .type "super", dict := none, data := .fields #[.ref C, .ref a, .ref C], slots := #[] } → (∀ b o, s.heap.get? b = some o → s'.heap.get? b = some o) → Q (.ref so) s') :
    PySem.wpAt (model X.prog X.w) X.A (.func body X.env) (attributeBase (.Call (.Name "super" p0) [] [] p1) "__init__" X.env whole) Q E s := by
  obtain ⟨of, fd, ar, h1, h2, h3, rfl⟩ := F.fn
  obtain ⟨cda, oc, vs, file, tf, g1, g2, g3, g4, g5⟩ := F.code
  have KX := I.kIn
  obtain ⟨mb, b1, b2⟩ := I.mod.blt
  cases hc : clsIn X.K C with
  | none =>
    have := F.cls
    rw [hc] at this
    cases this
  | some cdD =>
    obtain ⟨oD, hD1, hD2⟩ : ∃ oD, s.heap.get? C = some oD ∧ oD.data = .cls cdD := by
      unfold clsIn at hc
      split at hc
      · rename_i c d cd' sl ho
        cases hc
        exact ⟨_, KX _ _ ho, rfl⟩
      · cases hc
    refine ks_wpAt_super_base (env := X.env) F.ks F.kc (by decide) F.func (KX _ _ h1) h2 h3 g1 (KX _ _ g2) g3 g4 g5 F.top ?_
    refine ks_loadName_global I.ok.kind F.ks (Calls.loadGlobal_builtin (by rw [I.ok.glob]; exact I.mod.glob.keeps I.bk) F.nos (by rw [I.ok.blt]; exact b1.keeps I.bk) ((b2 "super" (by decide)).trans (by decide +kernel)) ⟨rfl, ?_⟩)
    refine lv I hN2 (.inr (.inr F.kc)) hσ2 (by decide) fun u1 e1 => ?_
    obtain rfl : u1 = Value.ref C := e1
    refine lv I hN hv hσ hcd fun u2 e2 => ?_
    obtain rfl : u2 = Value.ref a := e2
    obtain ⟨hp, g, d, t, os⟩ := s
    refine ks_wpAny_isType_cls hD1 hD2 ⟨rfl, ?_⟩
    refine ks_wpAny_call_super hD1 hD2 IA.at_ IA.cls (fun c e => ?_) (looks_mroIn KX F.sub) (fun h' e k => ?_)
    · have := IA.no
      unfold notCls at this
      rw [e] at this
      exact Bool.noConfusion this
    · exact h _ _ (I.kept k) e k
/-- the base's __init__, bound to the error that is being made -/
theorem mw_call {us : List Value} {u a C : Addr} {Q : Value → Shared → Prop} (T : OexC X.K C) (I : Inv X pins σ H s) (hu : s.heap.get? u = some (kxs_mw "ValueError.__init__" a)) (e : H a = some (exo a C none)) (hl : us.length ≤ sizeLine)
    (h : ∀ s', Inv X pins σ H s' → Q .none s') : wpAny (model X.prog X.w) X.A (call (.ref u) us) Q E s := by
  obtain ⟨nm, q, N, bs, bm, sn, sub, ab, col, dd, k0, k1, k2, k3, k5, hC, hbm⟩ := T.cls
  obtain ⟨t1, ho⟩ := exo_at I.hok e
  obtain ⟨hp, g, d, t, os⟩ := s
  have KC := I.kIn _ _ hC
  have FB := F.excBase_ValueError
  have yes : (Value.type "method-wrapper" == Value.type "method" || Value.type "method-wrapper" == Value.type "builtin_function_or_method"
      || Value.type "method-wrapper" == Value.type "method-wrapper") = true := by decide
  apply wpAny_call
  apply codeAny_of_tree
  show wpAny _ X.A.in1 (callAny (.ref u) ⟨us, []⟩) _ _ _
  simp only [callAny]
  apply wpAny_bind
  apply wpAny_load hu
  simp only [kxs_mw, yes, if_true]
  apply KFB.if_so (by decide)
  apply wpAny_bind
  refine check_bound_init FB.toExcCallFacts KC ho rfl (wpAny_bind (wpAny_pure (wpAny_pure ⟨plainId_quiet FB.init.plain _, codeAny_builtin FB.initEntry ?_⟩)))
  refine exc_init_tree (t0 := t1) (dv := none) ho hl fun h' k hx ht => ?_
  have J := I.write (t' := t) (x := a) (e := a) (o := exo a C none) (by rw [e]; exact True.intro) (.inl rfl) k ⟨_, hx⟩ (exo_ok hx)
  have eu : upd H a (exo a C none) = H := funext fun b => by
    by_cases hb : b = a
    · subst hb
      rw [upd_same, e]
    · exact upd_ne hb
  rw [eu] at J
  exact h _ J
/-- a body that begins by super().__init__(e) -/
theorem sup_body {body rest : List Stmt} {e : Expr} {f C a : Addr} {sn : Str} {i j : Nat} {p0 p1 p2 pos pos' : Pos} {pl : Sem Bool} {ta : TA} {t : TS} {D : Ends} (F : SupF X f C sn) (T : OexC X.K C)
    (hsup : ks_superIn X.K C C "__init__" = some (some (.builtin "ValueError.__init__"))) (hVE : subIn X.K (.ref C) (.type "ValueError") = some true) (I : Inv X pins σ H s)
    (hN : X.N[i]? = some sn) (hv : Vis X.env.scope sn) (hσ : σ[i]? = some (some (.ref a))) (hcd : (sn == ("__classdict__" : Str)) = false)
    (hN2 : X.N[j]? = some ("__class__" : Str)) (hσ2 : σ[j]? = some (some (.ref C))) (ea : H a = some (exo a C none)) (ha : PA X [e] ta) (hr : PSs X rest t)
    (q : ta σ H fun vs H1 => vs.length ≤ 1000 ∧ H1 a = some (exo a C none) ∧ t D σ H1)
    (hc : eval (.Call (.Attribute (.Call (.Name "super" p0) [] [] p1) "__init__" p2) [e] [] pos) X.env = (do
      let ov ← attributeBase (.Call (.Name "super" p0) [] [] p1) "__init__" X.env (eval (.Call (.Name "super" p0) [] [] p1) X.env)
      standAt p2.atName
      let (f, first) ← holding [ov] (getMethod ov "__init__" pl)
      callWith pos f first (backTo pos (starEach [e] X.env)) (backToKw pos (keywordEach [] X.env))) := by rfl)
    (he : starEach [e] X.env = (false, eval e X.env) :: starEach [] X.env := by rfl) (hpl : (backTo pos (starEach [] X.env)).any (·.1) = false := by rfl)
    (hs : swapsWith (.Call (.Attribute (.Call (.Name "super" p0) [] [] p1) "__init__" p2) [e] [] pos) none pos'.line X.env = pure false := by rfl) :
    PySem.wpAt (model X.prog X.w) X.A (.func body X.env) (execs (.Expr (.Call (.Attribute (.Call (.Name "super" p0) [] [] p1) "__init__" p2) [e] [] pos) pos' :: rest) X.env) (SP X pins D) X.xe s := by
  obtain ⟨t1, ho⟩ := exo_at I.hok ea
  have IA : InstAt s.heap a _ C none := ⟨ho, rfl, rfl, trivial⟩
  rw [execs_cons]
  apply PySem.wpAt_bind
  rw [exec_Expr _ _ _ I.quiet hs]
  apply PySem.wpAt_bind
  refine PySem.wpAt_of_wpAny (wpAny_standAt ?_)
  apply PySem.wpAt_bind
  rw [hc]
  apply PySem.wpAt_bind
  refine sup_at F (I.tok _) hN hv hσ hcd hN2 hσ2 IA fun so s1 I1 hso kp => ?_
  refine PySem.wpAt_of_wpAny (wpAny_bind (wpAny_standAt (wpAny_bind (wpAny_holding ?_))))
  cases hcl : clsIn X.K C with
  | none =>
    have := F.cls
    rw [hcl] at this
    cases this
  | some cd =>
    have KX := I1.kIn
    have IA1 : InstAt s1.heap a _ C none := ⟨kp _ _ ho, rfl, rfl, trivial⟩
    unfold ks_superIn at hsup
    rw [hcl] at hsup
    obtain ⟨hp, g, d, tk, os⟩ := s1
    refine kxs_getMethod kxs_ValueError hso (looks_opaque KX F.noo) (l₀ := cd.mro) ?_ rfl KX hsup (IA1.type.andThen (looks_subIn KX hVE)) (ks_ne KX IA1 hcl) (by decide) ?_
    · exact fun A Q E s k q => wpAny_bind ((looks_clsIn KX hcl) A _ E s k (wpAny_pure q))
    have hu : (hp.push (kxs_mw "ValueError.__init__" a)).get? hp.objs.size = some (kxs_mw "ValueError.__init__" a) := Heap.get?_push_at rfl rfl
    have I2 : Inv X pins σ H ⟨hp.push (kxs_mw "ValueError.__init__" a), g, d, tk + 1, os⟩ := I1.kept (t' := tk + 1) fun b o e => Heap.get?_push_of_some _ e
    have fp := I1.fpOk (b := hp.objs.size) (H' := H) (Nat.le_refl _) (I1.hok.gone (by
      cases e : hp.get? hp.objs.size with
      | none => rfl
      | some o => exact absurd (Heap.lt_size e) (Nat.lt_irrefl _)))
    have I3 : Inv X ((hp.objs.size, kxs_mw "ValueError.__init__" a) :: pins) σ H ⟨hp.push (kxs_mw "ValueError.__init__" a), g, d, tk + 1, os⟩ := I2.pins_of fun p hp => by
      rcases List.mem_cons.mp hp with rfl | hp
      · exact ⟨hu, fp.1, fp.2.1, fp.2.2.1, fun v e => by cases e⟩
      · exact I2.pin p (List.mem_append_right _ hp)
    show wpAny _ _ (callWith pos (Value.ref hp.objs.size) [] (backTo pos (starEach [e] X.env)) []) _ _ _
    rw [he]
    refine kxs_callWith (i := "ValueError.__init__") (x := a) (by show (false || (backTo pos (starEach [] X.env)).any (·.1)) = false; rw [hpl]; rfl) (Calls.evalArgs_plain ?_)
    have hrun := ha.run pos _ _ σ H _ I3 q
    rw [he] at hrun
    refine thn hrun fun us s2 ⟨vs, H1, J, r1, q1, q2, q3⟩ => ?_
    have hu2 := (J.pin _ (List.mem_append_right _ (List.mem_cons_self ..))).1
    refine ⟨hu2, mw_call T J hu2 q2 (show us.length ≤ sizeLine from (Paired.length r1) ▸ Nat.le_trans q1 (by decide)) fun s3 J3 => ?_⟩
    rw [dropValue_plain (fun a z => by cases z)]
    refine PySem.wpAt_of_wpAny (wpAny_pure ?_)
    have J4 : Inv X pins σ H1 s3 := J3.pins_of fun p hp => J3.pin p (List.mem_append_right _ (List.mem_cons_of_mem _ hp))
    exact PySem.wpAt_of_wpAny (hr.run pins s3 σ H1 D J4 q3)
end
end Ip

set_option Elab.async false
set_option linter.all false
set_option maxRecDepth 100000
set_option maxHeartbeats 4000000
namespace Ip
open PySem L2 PySem.W NdefX
/-! A method whose class cell is there, by its body at its own code. -/
section
variable {CX : CXT} {P : Program} {w : World} {K : PySem.W.Frag} {mg : Str → Option Value} {base : Heap} {N ps : List Str} {F : NF} {f C cc : Addr} {k : Nat} {sp : Sp} {doc pm ct oc : Value} {od : Option Addr} {osl : Array (Option Value)}
theorem cellF_ok {cl cld : _} {csl : Array (Option Value)} (hF : F.cl = [(("__class__" : Str), cc)]) (lk : K.lookup f = some ⟨oc, od, .func (F.fd doc pm ct), osl⟩) (hcd : PySem.W.codeIn K (.ref F.c) F.qual = true) (S : NScope N ps [("__class__" : Str)] F.scope)
    (lc : K.lookup cc = some ⟨cl, cld, .cell (some (.ref C)), csl⟩) (len : ∀ vs H Q E, sp vs H Q E → vs.length = ps.length)
    (hbody : ∀ (A : Around) (outer : List Env) (s s1 : Shared) (H : Hp) (vs : List V) (Q : VK) (E : XK), Room k (A.deeper (envF F f s.heap.objs.size)) → sp vs H Q E →
      Inv (ncx CX P w K mg base N F f A outer s H E) [] (startF N vs [some (.ref C)]) H s1 →
      PySem.wpAt (model P w) (A.deeper (envF F f s.heap.objs.size)) (.func F.body (envF F f s.heap.objs.size)) (execs F.body (envF F f s.heap.objs.size))
        (SP (ncx CX P w K mg base N F f A outer s H E) [] { nx := fun _ H' => Q .non H', rt := Q }) (ncx CX P w K mg base N F f A outer s H E).xe s1) :
    FnOk P w K mg base CX (k + 1) f (F.fd doc pm ct) ps sp := by
  refine ⟨len, fun A outer s H args us vs Q E hr e0 hb r hsp => ?_⟩
  have hl := len _ _ _ _ hsp
  have bk : ∀ b o, base.get? b = some o → s.heap.get? b = some o := fun b o e => (e0.bs b o e).1
  have KX : K.In s.heap := e0.mod.kin.keeps bk
  have lim : s.heap.NoLimit := e0.mod.nolimit.keeps bk
  have hcc : s.heap.IsCell cc (some (.ref C)) := ⟨_, KX _ _ lc, rfl⟩
  have look : ∀ y c, F.cl.lookup y = some c → y = ("__class__" : Str) ∧ c = cc := fun y c e => by
    rw [hF] at e
    by_cases hy : y = ("__class__" : Str)
    · subst hy
      have e' : some cc = some c := e
      cases e'
      exact ⟨rfl, rfl⟩
    · have hb : (y == ("__class__" : Str)) = false := by simp [hy]
      simp [List.lookup, hb] at e
  have C0 : CellsAt F.cl [("__class__" : Str)] [some (.ref C)] s.heap H := {
    len := rfl
    all := fun y c e => by
      obtain ⟨rfl, rfl⟩ := look y c e
      exact ⟨(e0.bs _ _ (e0.mod.kin _ _ lc)).2, _, hcc⟩
    inj := fun x y c e1 e2 => by rw [(look x c e1).1, (look y c e2).1]
    has := fun i y e => by
      match i, e with
      | 0, e =>
        cases e
        refine ⟨cc, by rw [hF]; rfl, fun v hv => ?_⟩
        cases hv
        exact ⟨.ref C, rfl, hcc⟩ }
  refine codeAny_call_function hr.depth (KX _ _ lk) rfl S.co S.gen rfl (codeRec_of KX hcd) (hb _ _ _ _ ?_)
  refine wpAny_newFunctionEnv S.nocell (fun ⟨n, _⟩ hy => S.par n (List.of_mem_zip hy).1) (fun h₁ hns hsb => ⟨lim.fresh _ hsb, ?_⟩) S.kind
  have kp : ∀ b o, s.heap.get? b = some o → h₁.get? b = some o := fun b o e => hsb.extBut b o (Nat.ne_of_lt (Heap.lt_size e)) (Heap.get?_push_of_some _ e)
  have I : Inv (ncx CX P w K mg base N F f A outer s H E) [] (startF N vs [some (.ref C)]) H { s with heap := h₁, toks := s.toks + (ps.zip us).length } := inv_startN S hr.hd e0 hl r C0 hns kp
  refine ks_codeAny_funcAt ?_
  refine PySem.wpAt_mono (hbody A outer s _ H vs Q E (hr.deeper _) hsp I) (fun fl s' hs => ?_) fun e s' hs => hs
  have fin : ∀ {σ' : L2.St} {H' : Hp} {v : V} {u : Value}, Inv (ncx CX P w K mg base N F f A outer s H E) [] σ' H' s' → L2.RelV v u → Q v H' → CE outer P w H s Q u s' :=
    fun J rv q => ⟨_, _, J.os, J.bare, J.base, J.hok, rv, q⟩
  cases fl with
  | ret u =>
    obtain ⟨v, σ', H', J, rv, q⟩ := hs
    exact fin J rv q
  | next =>
    obtain ⟨σ', H', J, q⟩ := hs
    exact fin (v := V.non) (u := Value.none) J rfl q
  | brk =>
    obtain ⟨_, _, _, q⟩ := hs
    exact q.elim
  | cont =>
    obtain ⟨_, _, _, q⟩ := hs
    exact q.elim
end
end Ip

set_option Elab.async false
set_option linter.all false
set_option maxRecDepth 100000
set_option maxHeartbeats 4000000
namespace Ip
open PySem L2 PySem.W NdefX
/-! An own error of one field: __init__ says super().__init__(f"..{x}..") and keeps x. -/
/-- what may stand in the message -/
def ErrV (v : V) : Prop := (∃ y : Str, v = .str y ∧ y.length ≤ 1000) ∨ ∃ i : Int, v = .int i ∧ i.natAbs.log2 < 1920 ∧ (toString i : String).toList.length ≤ 1000
/-- the parts of the message -/
inductive Msg (x : Str) : List Expr → Nat → Prop
  | nil : Msg x [] 0
  | lit {s : Str} {j : Nat} {p : Pos} {r : List Expr} {n : Nat} (t : Msg x r n) : Msg x (.Constant (.str s) j p :: r) (s.length + n)
  | fmt {p p' : Pos} {r : List Expr} {n : Nat} (t : Msg x r n) : Msg x (.FormattedValue (.Name x p) (-1) none p' :: r) (1000 + n)
theorem str_of_len (i : Int) : (Str.ofString (toString i)).length = (toString i : String).toList.length := by
  rw [Str.ofString_eq_toList]
  show (List.map Char.toNat _).toArray.size = _
  simp
theorem str_app_len (a b : Str) : (a ++ b).length = a.length + b.length := by
  show (a.cps ++ b.cps).size = _
  rw [Array.size_append]
  rfl
theorem msg_pj {X : Cx} {x : Str} {i : Nat} {σ : L2.St} {H : Hp} {v : V} (hN : X.N[i]? = some x) (hv : Vis X.env.scope x) (hσ : σ[i]? = some (some v)) (hd : (x == ("__debug__" : Str)) = false) (hcd : (x == ("__classdict__" : Str)) = false) (ev : ErrV v) :
    ∀ {es : List Expr} {n : Nat}, Msg x es n → ∃ ts, PJ X es ts ∧ ∀ (acc : Str) (Q : Str → Hp → Prop), acc.length + n ≤ 100000 → (∀ y, Q y H) → tJs ts acc σ H Q
  | _, _, .nil => ⟨[], .nil, fun acc Q _ h => h acc⟩
  | _, _, .lit (s := s) (n := n) t => by
    obtain ⟨ts, h1, h2⟩ := msg_pj hN hv hσ hd hcd ev t
    refine ⟨_, .cons pe_str h1, fun acc Q hl h => ⟨s, rfl, ?_, h2 _ Q ?_ h⟩⟩
    · rw [str_app_len]
      exact Nat.le_trans (by omega : _ ≤ 100000) (by decide)
    · rw [str_app_len]
      omega
  | _, _, .fmt (n := n) t => by
    obtain ⟨ts, h1, h2⟩ := msg_pj hN hv hσ hd hcd ev t
    refine ⟨_, .cons (pe_fmt (pe_var (i := i) hN hv hd hcd)) h1, fun acc Q hl h => ⟨v, hσ, ?_⟩⟩
    rcases ev with ⟨y, rfl, hy⟩ | ⟨k, rfl, hk, hy⟩
    · refine .inl ⟨y, rfl, Nat.le_trans hy (by decide), y, rfl, ?_, h2 _ Q ?_ h⟩
      · rw [str_app_len]
        exact Nat.le_trans (by omega : _ ≤ 100000) (by decide)
      · rw [str_app_len]
        omega
    · rw [← str_of_len] at hy
      refine .inr ⟨k, rfl, hk, Str.ofString (toString k), rfl, ?_, h2 _ Q ?_ h⟩
      · rw [str_app_len]
        exact Nat.le_trans (by omega : _ ≤ 100000) (by decide)
      · rw [str_app_len]
        omega
/-- what such an __init__ promises -/
def spE1 (C : Addr) (fld : Str) : Sp := fun vs H Q _ => ∃ (a : Addr) (v : V), vs = [.ref a, v] ∧ ErrV v ∧ H a = some (exo a C none) ∧ ∀ dx, H dx = none → dx ≠ a → Q .non (upd (upd H dx (exd dx [(fld, v)])) a (exo a C (some dx)))
/-- the facts of the class, its def and its cell -/
structure ErrK (P : Program) (K : PySem.W.Frag) (mg : Str → Option Value) (F : NF) (f C cc : Addr) (sn fld : Str) : Prop where
  cl : F.cl = [(("__class__" : Str), cc)]
  lk : ∃ oc od doc pm ct osl, K.lookup f = some ⟨oc, od, .func (F.fd doc pm ct), osl⟩
  code : ∃ oc vs file tf, K.lookup F.c = some oc ∧ oc.data = .fields vs ∧ vs[2]? = some (.str file tf) ∧ ((P.main.file : Str) == file) = true
  cin : PySem.W.codeIn K (.ref F.c) F.qual = true
  cell : ∃ oc od osl, K.lookup cc = some ⟨oc, od, .cell (some (.ref C)), osl⟩
  top : (P.main.scope.names.lookup ("super" : Str)).isSome = false
  nos : mg "super" = none
  noo : nsIn K cStatics "thirdparty.any" = some none
  cls : (clsIn K C).isSome = true
  sub : mroIn K C (.ref C) = some true
  oex : OexC K C
  sup : ks_superIn K C C "__init__" = some (some (.builtin "ValueError.__init__"))
  ve : subIn K (.ref C) (.type "ValueError") = some true
  fld : findIn K (.ref C) fld = some none
theorem init1_ok {CX : CXT} {P : Program} {w : World} {K : PySem.W.Frag} {mg : Str → Option Value} {base : Heap} {F : NF} {f C cc : Addr} {k n : Nat} {sn x fld : Str} {p0 p1 p2 p3 p4 p5 p6 pm pos pos' : Pos} {m1 m2 : Expr} {ms : List Expr} {ar : Arg} {pl : Env → Sem Bool}
    (E0 : ErrK P K mg F f C cc sn fld) (S : NScope [sn, x, ("__class__" : Str)] [sn, x] [("__class__" : Str)] F.scope) (har : (F.params.posonlyargs ++ F.params.args).head? = some ar) (hsn : ar.arg = sn)
    (hks : F.scope.names.lookup ("super" : Str) = some .globalImplicit)
    (hb : F.body = [.Expr (.Call (.Attribute (.Call (.Name "super" p0) [] [] p1) "__init__" p2) [.JoinedStr (m1 :: m2 :: ms) pm] [] pos) pos', .Assign [.Attribute (.Name sn p3) fld p4] (.Name x p5) p6])
    (hm : Msg x (m1 :: m2 :: ms) n) (hn : n ≤ 90000) (d1 : (sn == ("__debug__" : Str)) = false) (d2 : (sn == ("__classdict__" : Str)) = false) (d3 : (x == ("__debug__" : Str)) = false) (d4 : (x == ("__classdict__" : Str)) = false)
    (hc : ∀ env, eval (.Call (.Attribute (.Call (.Name "super" p0) [] [] p1) "__init__" p2) [.JoinedStr (m1 :: m2 :: ms) pm] [] pos) env = (do
      let ov ← attributeBase (.Call (.Name "super" p0) [] [] p1) "__init__" env (eval (.Call (.Name "super" p0) [] [] p1) env)
      standAt p2.atName
      let (f, first) ← holding [ov] (getMethod ov "__init__" (pl env))
      callWith pos f first (backTo pos (starEach [.JoinedStr (m1 :: m2 :: ms) pm] env)) (backToKw pos (keywordEach [] env))) := by intro _; rfl)
    (hs1 : ∀ env, swapsWith (.Call (.Attribute (.Call (.Name "super" p0) [] [] p1) "__init__" p2) [.JoinedStr (m1 :: m2 :: ms) pm] [] pos) none pos'.line env = pure false := by intro _; rfl) (hs2 : ∀ env, swapsWith (.Name x p5) (some (.Attribute (.Name sn p3) fld p4)) p6.line env = pure false := by intro _; rfl) :
    ∃ fd, (∃ doc pm ct, fd = F.fd doc pm ct) ∧ FnOk P w K mg base CX (k + 1) f fd [sn, x] (spE1 C fld) := by
  obtain ⟨oc, od, doc, pmm, ct, osl, lk⟩ := E0.lk
  obtain ⟨oc2, od2, osl2, lc⟩ := E0.cell
  refine ⟨_, ⟨doc, pmm, ct, rfl⟩, cellF_ok E0.cl lk E0.cin S lc (fun vs H Q E h => ?_) fun A outer s s1 H vs Q E hr hsp I => ?_⟩
  · obtain ⟨a, v, rfl, _⟩ := h
    rfl
  · obtain ⟨a, v, rfl, hv, ha, hq⟩ := hsp
    have v0 : Vis F.scope sn := .inl (S.par sn (by simp))
    have v1 : Vis F.scope x := .inl (S.par x (by simp))
    have SF : SupF (ncx CX P w K mg base [sn, x, ("__class__" : Str)] F f A outer s H E) f C sn := {
      func := rfl
      ks := hks
      kc := S.frk _ (by simp)
      fn := ⟨_, _, ar, lk, rfl, har, hsn⟩
      code := by
        obtain ⟨o, vs, file, tf, h1, h2, h3, h4⟩ := E0.code
        exact ⟨_, o, vs, file, tf, rfl, h1, h2, h3, h4⟩
      top := E0.top
      nos := E0.nos
      noo := E0.noo
      cls := E0.cls
      sub := E0.sub }
    obtain ⟨ts, h1, h2⟩ := msg_pj (X := ncx CX P w K mg base [sn, x, ("__class__" : Str)] F f A outer s H E) (i := 1) (σ := startF [sn, x, ("__class__" : Str)] [.ref a, v] [some (.ref C)]) (H := H) rfl v1 rfl d3 d4 hv hm
    rw [hb]
    refine sup_body (X := ncx CX P w K mg base [sn, x, ("__class__" : Str)] F f A outer s H E) (i := 0) (j := 2) (a := a) SF E0.oex E0.sup E0.ve I rfl v0 rfl d2 rfl rfl ha (pa_cons (pe_joined h1) pa_nil) (pss_one (ps_ost (pe_var (i := 0) rfl v0 d1 d2) (pe_var (i := 1) rfl v1 d3 d4) (hs2 _))) ?_ (hc _) rfl rfl (hs1 _)
    refine h2 _ _ (by show 0 + n ≤ 100000; omega) fun y => ⟨Nat.le_trans (Nat.le_refl 1) (by decide : 1 ≤ 1000), ha, ?_⟩
    exact ⟨v, rfl, .ref a, rfl, a, C, rfl, E0.oex, E0.fld, .inl ⟨ha, fun dx n1 n2 => hq dx n1 n2⟩⟩
end Ip

set_option Elab.async false
set_option linter.all false
set_option maxRecDepth 100000
set_option maxHeartbeats 4000000
namespace Ip
open PySem L2 PySem.W NdefX
/-! raise E(e), E an own error of one field. -/
/-- what is known of the class where it is named -/
structure ErrAt (X : Cx) (x fld : Str) (C : Addr) : Prop where
  mg : X.mg x = some (.ref C)
  oex : OexC X.K C
  def_ : ∃ fI fd k ps, findIn X.K (.ref C) "__init__" = some (some (.ref fI)) ∧ typeIn X.K (.ref fI) = some (.type "function") ∧ FnOk X.prog X.w X.K X.mg X.base (L2N.CX X.prog X.w) k fI fd ps (spE1 C fld) ∧ Room (k + 1) X.A ∧ Binds X.K fd ps []
theorem passN {Y : Cx} : Passes (L2N.CX Y.prog Y.w) Y E0 := fun _ _ _ _ _ _ _ ⟨_, _, _, _, _, _, _, _, _, _, _, _, z⟩ => z.elim
/-- E(e, ..), its context None -/
theorem pmkN {Y : Cx} {CT : CXT} {nm : Str} {e0 : Expr} {er : List Expr} {ta0 : TA} {q0 q1 : Pos} {D fI : Addr} {lv : Nat} {fdI : FuncData} {pI : List Str} {spI : Sp} (T : OexC Y.K D) (iD : findIn Y.K (.ref D) "__init__" = some (some (.ref fI)))
    (tf : typeIn Y.K (.ref fI) = some (.type "function")) (FI : FnOk Y.prog Y.w Y.K Y.mg Y.base CT lv fI fdI pI spI) (rm : Room (lv + 1) Y.A) (bI : Binds Y.K fdI pI []) (px : Passes CT Y E0)
    (gl : Gl Y nm) (mD : Y.mg nm = some (.ref D)) (pa : PA Y (e0 :: er) ta0) (dbg : (nm == ("__debug__" : Str)) = false)
    (st1 : starEach (e0 :: er) Y.env = (false, eval e0 Y.env) :: starEach er Y.env) (st2 : (backTo q1 (starEach er Y.env)).any (·.1) = false) :
    L2N.PMk Y (.Call (.Name nm q0) (e0 :: er) [] q1) (tMkO D spI [] ta0) := by
  intro pins s0 σ0 H0 QQ J0 hh
  obtain ⟨b1, b2, b3, b4, b5, b6, b7, b8, b9, b10, c0, c1, c2, c3, c5, lkD, isVE⟩ := T.cls
  refine wpAny_Call_Name_kw (ld_glob J0 gl mD ?_ dbg)
  refine callWith_K (h₀ := Y.base) J0.ok.mod.kin T.kC (thn (pa.run q1 pins s0 σ0 H0 _ J0 hh) fun ws s3 ⟨xs, H3, J3, rr, few, nxt⟩ => ⟨J3.kIn, ?_⟩) st1 st2
  show wpAny _ _ (call (.ref D) ws) _ _ _
  obtain ⟨hh0, gn, dw, tn, osx⟩ := s3
  let ad := hh0.objs.size + 1
  have le1 : hh0.objs.size ≤ ad := Nat.le_succ _
  have fr : H3 ad = none := J3.hok.fresh le1
  have want := nxt ad fr
  let hh1 := (hh0.push (PySem.W.kdv_tup ws)).push (PySem.HandSPX.excO D hh0.objs.size)
  have keep1 : ∀ b o, hh0.get? b = some o → hh1.get? b = some o := fun b o e =>
    Heap.get?_push_of_some _ (Heap.get?_push_of_some _ e)
  have at1 : hh1.get? ad = some (PySem.HandSPX.excO D hh0.objs.size) := by
    show ((hh0.push (PySem.W.kdv_tup ws)).push (PySem.HandSPX.excO D hh0.objs.size)).get? (hh0.objs.size + 1) = _
    heap_get
  have J4 : Inv Y pins σ0 (upd H3 ad (exo ad D none)) ⟨hh1, gn, dw, tn, osx⟩ := J3.laid (t' := tn) (a := ad) (o := exo ad D none) (h' := hh1) keep1 le1 (exo_ok at1)
  have rr4 : Vals (V.ref ad :: (xs ++ [])) (Value.ref ad :: (ws ++ [])) := .cons rfl (rr.append .nil)
  have ln4 : (Value.ref ad :: ws ++ []).length = pI.length := by
    rw [← FI.len _ _ _ _ want]
    exact (Vals.length rr4).symm
  have few4 : ws.length ≤ sizeLine := by
    have e5 := Paired.length rr
    rw [sizeLine_eq]
    omega
  have b6 := bI ⟨hh1, gn, dw, tn, osx⟩ (Value.ref ad :: ws) J4.kIn ln4
  rw [List.cons_append] at b6
  have run4 := FI.run _ Y.stack _ _ ⟨Value.ref ad :: ws, []⟩ (Value.ref ad :: (ws ++ [])) _ _ (fun _ _ _ => False) (rm.make D ws []) (J4.env0.make D ws []) b6 rr4 want
  refine wpAny_call (PySem.HandSPX.call_own F.excBase_ValueError (fun Y2 => PySem.HandSPX.refsVE_contains Y2 b5 isVE) (J3.kIn _ _ lkD)
    (looks_findIn J3.kIn iD) (fun self => bind_fn J3.kIn self tf) few4 (codeAny_mono run4 fun rs s5 h5 => ?_))
  cases rs with
  | error ex =>
    exact px pins σ0 _ _ ex s5 J4 h5
  | ok fl =>
    cases fl with
    | ret u0 =>
      obtain ⟨v0, H5, oe5, ba5, un5, hk5, rv5, ev5, d5, fs5, ea5, ed5, hd5, q5⟩ := h5
      subst ev5
      obtain ⟨h6, g6, d6, t6, os6⟩ := s5
      obtain ⟨t0, G0, J6, kG, ge, ho6, na6⟩ := mk_end0 (d2 := d6) (t2 := t6) J3 le1 keep1 un5 hk5 oe5 ba5 ea5 ed5 hd5
      refine ⟨rv5, ad, _, _, ⟨G0, g6, d6, t6, os6⟩, _, .ref D, some d5, rfl, J6, kG, ge, ho6, ⟨rfl, rfl, fun vs hv => ?_⟩, rfl, rfl, na6, rfl, ba5, raises_own T.exC T.tyC, q5⟩
      cases hv
      rfl
    | _ => exact False.elim h5
theorem pmk_err1 {X : Cx} {x fld : Str} {C : Addr} {e : Expr} {ta : TA} {p pos : Pos} (K : ErrAt X x fld C) (hg : Gl X x) (ha : PA X [e] ta) (hdb : (x == ("__debug__" : Str)) = false)
    (he : starEach [e] X.env = (false, eval e X.env) :: starEach [] X.env := by rfl) (hpl : (backTo pos (starEach [] X.env)).any (·.1) = false := by rfl) :
    L2N.PMk X (.Call (.Name x p) [e] [] pos) (tMkO C (spE1 C fld) [] ta) := by
  obtain ⟨fI, fd, k, ps, h1, h2, h3, h4, h5⟩ := K.def_
  exact pmkN K.oex h1 h2 h3 h4 h5 passN hg K.mg ha hdb he hpl
/-- what stands behind the making: the error's dict, new -/
theorem mk_in {C : Addr} {fld : Str} {v : V} {H1 : Hp} {Q : XK} (hv : ErrV v) (h : ∀ d, H1 d = none → Q (.ref C) (some d) (upd H1 d (.xd [(fld, v)]))) :
    [v].length ≤ 1000 ∧ ∀ a, H1 a = none → spE1 C fld (.ref a :: ([v] ++ [])) (upd H1 a (exo a C none))
      (fun w H2 => w = .non ∧ ∃ (d : Addr) (fs : List (Str × V)), H2 a = some (exo a C (some d)) ∧ H2 d = some (exd d fs) ∧ H1 d = none ∧ Q (.ref C) (some d) (upd (del H2 a) d (.xd fs))) (fun _ _ _ => False) := by
  refine ⟨Nat.le_trans (Nat.le_refl 1) (by decide), fun a hn => ⟨a, v, rfl, hv, upd_same, fun dx n1 n2 => ⟨rfl, dx, [(fld, v)], upd_same, ?_, ?_, ?_⟩⟩⟩
  · rw [upd_ne n2, upd_same]
  · rw [upd_ne n2] at n1
    exact n1
  · have n3 : H1 dx = none := by
      rw [upd_ne n2] at n1
      exact n1
    have e : upd (del (upd (upd (upd H1 a (exo a C none)) dx (exd dx [(fld, v)])) a (exo a C (some dx))) a) dx (.xd [(fld, v)]) = upd H1 dx (.xd [(fld, v)]) := funext fun b => by
      by_cases hb : b = dx
      · subst hb
        rw [upd_same, upd_same]
      · rw [upd_ne hb, upd_ne hb]
        by_cases ha : b = a
        · subst ha
          rw [del_same, hn]
        · rw [del_ne ha, upd_ne ha, upd_ne hb, upd_ne ha]
    rw [e]
    exact h dx n3
end Ip

set_option Elab.async false
set_option linter.all false
set_option maxRecDepth 100000
set_option maxHeartbeats 4000000
namespace Ip
open PySem L2 PySem.W NdefX He
/-! The facts of an own error's class, decided from the written part. -/
abbrev nmI : Str := "__init__"
def errF (K : PySem.W.Frag) (x : Str) : Addr := ma K (ga K x) nmI
def errFd (K : PySem.W.Frag) (x : Str) : Option FuncData := match K.lookup (errF K x) with
  | some o => (match o.data with
    | .func fd => some fd
    | _ => none)
  | none => none
def errCl (K : PySem.W.Frag) (x : Str) : List (Str × Addr) := match errFd K x with
  | some fd => fd.closure
  | none => []
def errCd (K : PySem.W.Frag) (x : Str) : Addr := match errFd K x with
  | some fd => (match fd.code with
    | .ref c => c
    | _ => 0)
  | none => 0
def errCc (K : PySem.W.Frag) (x : Str) : Addr := match errCl K x with
  | [(_, c)] => c
  | _ => 0
abbrev ErrW : Type := Option (Str × Str × Arguments × FuncBody × Scope)
def errW (K : PySem.W.Frag) (x : Str) : ErrW := (errFd K x).map fun fd => (fd.name, fd.qualname, fd.params, fd.body, fd.scope)
def fileB (P : Program) (K : PySem.W.Frag) (c : Addr) : Bool := match K.lookup c with
  | some o => (match o.data with
    | .fields vs => (match (vs[2]? : Option Value) with
      | some (Value.str file _) => (P.main.file : Str) == file
      | _ => false)
    | _ => false)
  | none => false
def cellB (K : PySem.W.Frag) (c C : Addr) : Bool := match K.lookup c with
  | some o => (match o.data with
    | .cell (some (.ref D)) => D == C
    | _ => false)
  | none => false
def oexB (K : PySem.W.Frag) (C : Addr) : Bool := match K.lookup C with
  | some o => (match o.data with
    | .cls cd => decide (o.cls = .type "type") && (!cd.hasDel && (cd.hasDict && (match cd.mro with
      | .ref C2 :: bm => C2 == C && PySem.HandSPX.refsVE bm
      | _ => false) && (match o.slots.toList with
      | [_, _, _, _, some (.builtin n), _] => n == "ValueError.__new__"
      | _ => false)))
    | _ => false)
  | none => false
def errB (P : Program) (K : PySem.W.Frag) (x fld : Str) : Bool := (match errFd K x with
  | some fd => decide (fd.closure = [(("__class__" : Str), errCc K x)]) && (decide (fd.code = .ref (errCd K x)) && (decide (fd.defaults = .none) && (decide (fd.kwdefaults = .none) && (decide (fd.annotations = none)
    && (decide (fd.globals = mainGlobals) && (decide (fd.builtins = builtinsNs) && codeIn K (.ref (errCd K x)) fd.qualname))))))
  | none => false) && (fileB P K (errCd K x) && (cellB K (errCc K x) (ga K x) && (oexB K (ga K x) && (eqO (nsIn K cStatics "thirdparty.any") (some none) && ((clsIn K (ga K x)).isSome
    && (decide (mroIn K (ga K x) (.ref (ga K x)) = some true) && (eqO (findIn K (.ref (ga K x)) "__setattr__") (some (some (.builtin "object.__setattr__"))) && (decide (subIn K (.ref (ga K x)) (.type "BaseException") = some true)
    && (decide (typeIn K (.ref (ga K x)) = some (.type "type")) && (keepIn K (.ref (ga K x)) && (eqO (ks_superIn K (ga K x) (ga K x) nmI) (some (some (.builtin "ValueError.__init__")))
    && (decide (subIn K (.ref (ga K x)) (.type "ValueError") = some true) && (eqO (findIn K (.ref (ga K x)) fld) (some none) && (eqO (findIn K (.ref (ga K x)) nmI) (some (some (.ref (errF K x)))) && decide (typeIn K (.ref (errF K x)) = some (.type "function"))))))))))))))))
theorem oexB_ok {K : PySem.W.Frag} {C : Addr} (h : oexB K C = true) : ∃ nm q N bs bm sn sub ab col dd k0 k1 k2 k3 k5, K.lookup C = some (excClassObj nm q C N bs bm true sn sub ab col dd k0 k1 k2 k3 k5 "ValueError.__new__") ∧ PySem.HandSPX.refsVE bm = true := by
  unfold oexB at h
  cases q : K.lookup C with
  | none =>
    rw [q] at h
    cases h
  | some o =>
    rw [q] at h
    obtain ⟨oc, od, dt, osl⟩ := o
    cases dt with
    | cls cd =>
      obtain ⟨nm, bs, mro, ns, qn, hd, sn, sub, ab, col, del⟩ := cd
      simp only [Bool.and_eq_true, decide_eq_true_eq, Bool.not_eq_true'] at h
      obtain ⟨h1, h2, ⟨h3, h4⟩, h5⟩ := h
      subst h1 h2 h3
      split at h4
      · rename_i C2 bm
        simp only [Bool.and_eq_true, beq_iff_eq] at h4
        obtain ⟨rfl, h6⟩ := h4
        split at h5
        · rename_i k0 k1 k2 k3 n k5 e
          have hn : n = "ValueError.__new__" := beq_iff_eq.mp h5
          subst hn
          have es : osl = #[k0, k1, k2, k3, some (.builtin "ValueError.__new__"), k5] := by
            obtain ⟨l⟩ := osl
            exact congrArg Array.mk e
          subst es
          exact ⟨nm, qn, ns, bs, bm, sn, sub, ab, col, od, k0, k1, k2, k3, k5, rfl, h6⟩
        · cases h5
      · cases h4
    | _ => cases h
/-- an own error of one field: its name, its field, its __init__'s text -/
structure ErrD where
  x : Str
  fld : Str
  name : Str
  qual : Str
  params : Arguments
  body : List Stmt
  scope : Scope
def ErrD.F (d : ErrD) (K : PySem.W.Frag) : NF := ⟨d.name, d.qual, d.params, d.body, d.scope, errCl K d.x, errCd K d.x⟩
def ErrD.val (d : ErrD) : ErrW := some (d.name, d.qual, d.params, .stmts d.body, d.scope)
theorem fileB_ok {P : Program} {K : PySem.W.Frag} {c : Addr} (h : fileB P K c = true) : ∃ oc vs file tf, K.lookup c = some oc ∧ oc.data = .fields vs ∧ vs[2]? = some (.str file tf) ∧ ((P.main.file : Str) == file) = true := by
  unfold fileB at h
  split at h
  · rename_i o q
    split at h
    · rename_i vs e
      split at h
      · rename_i file tf e2
        exact ⟨o, vs, file, tf, q, e, e2, h⟩
      · cases h
    · cases h
  · cases h
theorem cellB_ok {K : PySem.W.Frag} {c C : Addr} (h : cellB K c C = true) : ∃ oc od osl, K.lookup c = some ⟨oc, od, .cell (some (.ref C)), osl⟩ := by
  unfold cellB at h
  split at h
  · rename_i o q
    obtain ⟨oc, od, dt, osl⟩ := o
    split at h
    · rename_i D e
      have e2 : D = C := beq_iff_eq.mp h
      have e : dt = _ := e
      subst e2 e
      exact ⟨oc, od, osl, q⟩
    · cases h
  · cases h
theorem err_ok {P : Program} {K : PySem.W.Frag} {mg : Str → Option Value} {d : ErrD} {sn : Str} (e : errW K d.x = d.val) (b : errB P K d.x d.fld = true) (hs : mg "super" = none) (ht : (P.main.scope.names.lookup ("super" : Str)).isSome = false) :
    ErrK P K mg (d.F K) (errF K d.x) (ga K d.x) (errCc K d.x) sn d.fld ∧ findIn K (.ref (ga K d.x)) nmI = some (some (.ref (errF K d.x))) ∧ typeIn K (.ref (errF K d.x)) = some (.type "function") := by
  unfold errB at b
  simp only [Bool.and_eq_true, decide_eq_true_eq] at b
  obtain ⟨b0, b1, b2, b3, b4, b5, b6, b7, b8, b9, b10, b11, b12, b13, b14, b15⟩ := b
  refine ⟨?_, eqO_ok b14, b15⟩
  cases q : errFd K d.x with
  | none =>
    rw [q] at b0
    cases b0
  | some fd =>
    rw [q] at b0
    have ecl : errCl K d.x = fd.closure := by
      unfold errCl
      rw [q]
    obtain ⟨n1, n2, n3, n4, n5, n6, n7, n8, n9, n10, n11, n12, n13, n14, n15⟩ := fd
    have b0' : (decide (n7 = [(("__class__" : Str), errCc K d.x)]) && (decide (n13 = .ref (errCd K d.x)) && (decide (n8 = .none) && (decide (n9 = .none) && (decide (n12 = none)
      && (decide (n6 = mainGlobals) && (decide (n15 = builtinsNs) && codeIn K (.ref (errCd K d.x)) n2))))))) = true := b0
    simp only [Bool.and_eq_true, decide_eq_true_eq] at b0'
    obtain ⟨c1, c2, c3, c4, c5, c6, c7, c8⟩ := b0'
    have e2 : (some (n1, n2, n3, n4, n5) : ErrW) = some (d.name, d.qual, d.params, .stmts d.body, d.scope) := by
      have e' : errW K d.x = d.val := e
      unfold errW at e'
      rw [q] at e'
      exact e'
    simp only [Option.some.injEq, Prod.mk.injEq] at e2
    obtain ⟨h1, h2, h3, h4, h5⟩ := e2
    have ecl2 : errCl K d.x = n7 := ecl
    subst h1 h2 h3 h4 h5 c2 c3 c4 c5 c6 c7
    have lk : ∃ oc od osl, K.lookup (errF K d.x) = some ⟨oc, od, .func ⟨d.name, d.qual, d.params, .stmts d.body, d.scope, mainGlobals, n7, .none, .none, n10, n11, none, .ref (errCd K d.x), n14, builtinsNs⟩, osl⟩ := by
      unfold errFd at q
      split at q
      · rename_i o q2
        obtain ⟨oc, od, dt, osl⟩ := o
        split at q
        · rename_i fd e3
          cases q
          have e3 : dt = _ := e3
          subst e3
          exact ⟨oc, od, osl, q2⟩
        · cases q
      · cases q
    obtain ⟨oc, od, osl, lk⟩ := lk
    exact {
      cl := ecl2.trans c1
      lk := ⟨oc, od, n10, n11, n14, osl, by rw [lk]; show _ = some (Obj.mk oc od (.func ((d.F K).fd n10 n11 n14)) osl); unfold ErrD.F; rw [ecl2]⟩
      code := fileB_ok b1
      cin := c8
      cell := cellB_ok b2
      top := ht
      nos := hs
      noo := eqO_ok b4
      cls := b5
      sub := b6
      oex := ⟨oexB_ok b3, eqO_ok b7, b8, b9, b10⟩
      sup := eqO_ok b11
      ve := b12
      fld := eqO_ok b13 }
end Ip

set_option Elab.async false
set_option linter.all false
set_option maxRecDepth 100000
set_option maxHeartbeats 4000000
namespace Ip
open PySem L2 PySem.W He
/-! What is asked of the module's top: defs, names, own errors. -/
def asE (g : Addr → Option Obj) : Nat → List Addr
  | 0 => [mainGlobals, cStatics]
  | n + 1 => growD g (asE g n)
abbrev AlE : Type := AlD × (Bool × List ErrW)
def obsE (P : Program) (fa : List Fa) (fn : List DefD) (er : List ErrD) (K : PySem.W.Frag) : AlE := (obsD fa fn K, er.all (fun d => errB P K d.x d.fld), er.map fun d => errW K d.x)
def valE (fn : List DefD) (er : List ErrD) : AlE := (valD fn, true, er.map ErrD.val)
def SaysE (P : Program) (fa : List Fa) (fn : List DefD) (er : List ErrD) (K : PySem.W.Frag) : Prop := obsE P fa fn er K = valE fn er
def obsEG (n : Nat) (P : Program) (fa : List Fa) (fn : List DefD) (er : List ErrD) (g : Addr → Option Obj) : AlE := obsE P fa fn er (frG g (asE g n))
def hookE (n : Nat) (P : Program) (fa : List Fa) (fn : List DefD) (er : List ErrD) : PySem.W.Hook where
  α := AlE
  obs := fun s => obsEG n P fa fn er s.heap.get?
  val := fun _ => valE fn er
  says := fun _ h => ∃ K : PySem.W.Frag, K.In h ∧ SaysE P fa fn er K
  of := fun _ _ e => ⟨_, frG_in, e⟩
  keeps := fun _ _ _ q k => q.elim fun K q => ⟨K, PySem.W.Frag.In.keeps q.1 k, q.2⟩
theorem obsEG_eq {n : Nat} {P : Program} {fa : List Fa} {fn : List DefD} {er : List ErrD} {g : Addr → Option Obj} {s : Shared} (h : ∀ a, g a = s.heap.get? a) : obsEG n P fa fn er g = (hookE n P fa fn er).obs s := by
  obtain rfl : g = s.heap.get? := funext h
  rfl
theorem SaysE.old {P : Program} {fa : List Fa} {fn : List DefD} {er : List ErrD} {K : PySem.W.Frag} (c : SaysE P fa fn er K) : SaysD fa fn K := congrArg (fun z : AlE => z.1) c
theorem SaysE.err {P : Program} {fa : List Fa} {fn : List DefD} {er : List ErrD} {K : PySem.W.Frag} (c : SaysE P fa fn er K) (i : Nat) {d : ErrD} (h : er[i]? = some d := by rfl) : errW K d.x = d.val ∧ errB P K d.x d.fld = true := by
  have c1 : (er.all fun d => errB P K d.x d.fld) = true := congrArg (fun z : AlE => z.2.1) c
  have c2 : er.map (fun d => errW K d.x) = er.map ErrD.val := congrArg (fun z : AlE => z.2.2) c
  refine ⟨?_, List.all_eq_true.mp c1 d (List.mem_of_getElem? h)⟩
  have e : (er.map fun d => errW K d.x)[i]? = (er.map ErrD.val)[i]? := by rw [c2]
  rw [List.getElem?_map, List.getElem?_map, h] at e
  exact Option.some.inj e
end Ip

set_option Elab.async false
set_option linter.all false
set_option maxRecDepth 100000
set_option maxHeartbeats 4000000
/-! isinstance of a caught error that has fields. -/
namespace Ip
open PySem L2 PySem.W PySem.Calls PySem.Spec PyProof.Rows
section
variable {P : Program} {w : World} {A : Around} {E : Value → Shared → Prop} {s : Shared} {K : Frag} {x D : Addr} {ox : Obj} {od : Option Obj}
theorem obj_dat {C : Addr} {nm : Str} {v g : Value} (c1 : (clsIn K C).isSome = true) (c2 : findIn K (.ref C) nm = some (some v)) (c3 : specialIn K v "__get__" = some (some g)) (c4 : takesIn K v = some true) :
    findObj K C od nm = some (.bind g v) := by
  unfold findObj
  obtain ⟨cd, c1⟩ := Option.isSome_iff_exists.mp c1
  rw [c1, Option.bind_some, c2]
  rw [Option.bind_some]
  simp [c3, c4]
theorem cls_attr {Q : Option Value → Shared → Prop} (T : ExcC K D) (X : K.In s.heap) (I : InstAt s.heap x ox D od) (q : Q (some (.ref D)) { s with toks := s.toks + 1 }) :
    wpAny (model P w) A (getAttr? (.ref x) "__class__") Q E s := by
  obtain ⟨cd, cdh, _⟩ := any_some T.hd
  have fo : findObj K D od "__class__" = some (.bind (.builtin "getset_descriptor.__get__") (.builtin "object.__class__")) := obj_dat (by rw [cdh]; rfl) T.ha T.hn T.ht
  obtain ⟨hp, gs, dw, tk, os⟩ := s
  have ty := I.type (M := model P w)
  have ga := looks_findIn (M := model P w) X T.hg
  have gt := looks_findIn (M := model P w) X T.hk
  have fi := looks_find (M := model P w) X I fo
  have isb : Looks (model P w) hp (isInstance (.ref x) (.type "BaseException")) true := ty.andThen (looks_subIn X T.hs)
  have z2 : (Value.builtin "BaseException.__getattribute__" == Value.builtin "object.__getattribute__") = false := by
    decide +kernel
  have z0 : (false && onTheHeap (Value.builtin "BaseException.__getattribute__")) = false := by
    rfl
  have z1 : (onTheHeap (Value.ref D) && Value.builtin "BaseException.__getattribute__" == Value.builtin "object.__getattribute__") = false := by
    rw [z2]
    rfl
  unfold getAttr? getAttrBy?
  unfold getAttrBy
  refine wpAny_bind (wpAny_mkText (wpAny_bind (wpAny_attempt (wpAny_holding (wpAny_bind (ty.at (wpAny_bind (ga.at ?_))))))))
  show wpAny _ _ (if (onTheHeap (Value.ref D) && Value.builtin "BaseException.__getattribute__" == Value.builtin "object.__getattribute__") = true
    then _ else _) _ _ _
  rw [z1]
  rw [if_neg Bool.false_ne_true]
  unfold getAttrByItsOwn
  unfold hookBefore
  refine wpAny_bind ?_
  rw [if_pos (by rfl : onTheHeap (Value.ref D) = true)]
  refine gt.at (wpAny_bind (wpAny_attempt (wpAny_holding ?_)))
  unfold callGetattribute
  rw [z0]
  rw [if_neg Bool.false_ne_true]
  unfold boundAndCalled
  rw [PySem.F.excAttr_ValueError.ga.bind (.ref x)]
  refine wpAny_bind (wpAny_pure ?_)
  show wpAny _ _ (call (.builtin "BaseException.__getattribute__") [.ref x, .str "__class__" tk]) _ _ _
  refine wpAny_call (codeAny_call_builtin PySem.F.excAttr_ValueError.ga.plain PySem.F.entry_bexc_ga ?_)
  refine @check_slot (model P w) _ _ ⟨hp, gs, dw, tk + 1, os⟩ "BaseException.__getattribute__" "BaseException" "__getattribute__" (.ref x) [.str "__class__" tk] [] _
    (by decide +kernel) (by decide +kernel) isb (PySem.F.args_bexc_ga (.ref x) (.str "__class__" tk)) ?_
  unfold Builtin.«object.__getattribute__»
  refine wpAny_bind (wpAny_of_eq (a := ((Value.ref x : Value), [Value.str "__class__" tk])) (by first | rfl | (simp only [slotArgs]; rfl)) (wpAny_bind (wpAny_pure (wpAny_bind (ty.at (wpAny_bind (fi.at ?_)))))))
  show wpAny _ _ (holding [Value.builtin "object.__class__"] (call (.builtin "getset_descriptor.__get__") [.builtin "object.__class__", .ref x, .ref D])
    >>= ret) _ _ _
  refine wpAny_bind (wpAny_holding (wpAny_call (class_get (s := ⟨hp, gs, dw, tk + 1, os⟩) (ox := ox) (od := od) X I T.hm ?_)))
  first
    | exact wpAny_pure (wpAny_pure q)
    | exact wpAny_pure q
    | (refine wpAny_pure ?_
       show wpAny _ _ (handedOut (.ref D)) _ _ _
       rw [handedOut_of (v := .ref D) rfl]
       first
         | exact wpAny_pure (wpAny_pure q)
         | exact wpAny_pure q
         | exact wpAny_pure (wpAny_bind (wpAny_pure (wpAny_pure q))))
theorem kit_exc (T : ExcC K D) : KitX K (.ref x) (.ref D) (fun h => InstAt h x ox D od) where
  ca := fun X I q => cls_attr T X I q
  ty := fun _ _ _ I => I.type
  it := fun _ _ X _ => by
    obtain ⟨cd, hc, _⟩ := any_some T.hd
    unfold clsIn at hc
    split at hc
    · rename_i e1 e2 e3 e4 ho
      intro A' Q' E' s' kk q
      unfold isType
      unfold loadHead
      exact wpAny_bind (wpAny_loadPart (kk _ _ (X _ _ ho)) (wpAny_pure q))
    · cases hc
  ne := fun h tp dd its n sl X htp => by
    obtain ⟨cd, hc, _⟩ := any_some T.hd
    rw [Bool.eq_false_iff]
    intro q
    have e := Value.ref.inj (beq_iff_eq.mp q)
    subst e
    unfold clsIn at hc
    split at hc
    · rename_i e1 e2 e3 e4 ho
      have z := (X _ _ ho).symm
      rw [htp] at z
      cases z
    · cases hc
end
/-- isinstance(e, c), e the exception that the suite holds, dd its dict -/
def rIsX (K : PySem.W.Frag) (D a dd : Addr) : List V → Hp → VK → Prop := fun xs H Q => ∃ (c : V) (cv : Value) (b : Bool) (fs : List (Str × V)),
  xs = [.ref a, c] ∧ (∀ u, RelV c u → u = cv) ∧ kitOne K (.ref D) cv = some b ∧ H dd = some (.xd fs) ∧ Q (.bl b) H
theorem call_isX {X : Cx} {a D dd : Addr} {oe : Obj} {pn : List (Addr × Obj)} (C : ExcC X.K D) (hz : Zc (.ref D) (some dd) oe) (hf : ∃ vs, oe.data = .fields vs) :
    CallR (X.suite a ((a, oe) :: pn)) (.builtin "isinstance") (rIsX X.K D a dd) := by
  intro pins s σ H xs us Q I r h
  obtain ⟨c, cv, b, fs, rfl, ec, ek, ed, q⟩ := h
  cases r with
  | cons r1 r2 =>
    cases r2 with
    | cons r3 r4 =>
      cases r4
      cases r1
      obtain rfl := ec _ r3
      obtain ⟨mA, hns, hr⟩ := show ObjOk _ _ H s.heap dd (.xd fs) from I.hok dd _ ed
      obtain ⟨od, ho, _⟩ := lookIn_ns hns
      have J : InstAt s.heap a oe D (some od) := by
        have hg := (I.pin (a, oe) (List.mem_append.mpr (.inl List.mem_cons_self))).1
        obtain ⟨vs, hv⟩ := hf
        obtain ⟨k1, k2, k3, k4⟩ := oe
        obtain ⟨z1, z2⟩ := hz
        dsimp only at z1 z2 hv
        subst z1 z2 hv
        exact ⟨hg, rfl, rfl, ho⟩
      exact kia_one (kit_exc C) I.kIn J ek (fun z => nomatch z) fun tk => ⟨.bl b, H, I.kept (t' := tk) fun _ _ z => z, rfl, q⟩
end Ip

set_option Elab.async false
set_option linter.all false
set_option maxRecDepth 100000
set_option maxHeartbeats 4000000
/-! Readings over data, expression by expression. -/
namespace Ip
open PySem L2
/-! ### what is known where an expression stands -/
structure Gam where
  N : List Str
  sc : Scope
  K : PySem.W.Frag
  cl : Cl
  /-- the own defs that may be called here; the built-ins that nothing covers -/
  fs : List Str
  bs : List Str
  /-- the own defs that may raise; the own errors, each with its field -/
  xs : List Str
  es : List (Str × Str)
  /-- the own defs that may be called within an except suite -/
  hs : List Str := []
  /-- isinstance of a caught error: its class, the class asked for, the answer; the same of except clauses -/
  ks : List (Str × Str × Bool) := []
  ts : List (Str × Str × Bool) := []
  /-- the module's constants; own defs with what fills up their last parameters -/
  gs : List (Str × D) := []
  df : List (Str × List Cst) := []
  /-- own generator defs, spoken of by what list(..) of a call comes to -/
  gn : List Str := []
  /-- within an except suite -/
  hot : Bool := false
  /-- the slot of the list that goes back changed; a new list is returned; own defs that change their last list; own defs that return a new list or None -/
  io : Option Nat := none
  fr : Bool := false
  fi : List Str := []
  ff : List Str := []
  /-- the module's dicts with text keys; the own defs that a lambda may call; a lambda may be made here -/
  kd : List (Str × List (Str × D)) := []
  lx : List Str := []
  lm : Bool := false
/-- no error is caught here -/
abbrev noLk : Addr → Addr → Str → Str → Prop := fun _ _ _ _ => False
/-- the pool alone -/
def Pa.o (p : Pa) : Pa := ⟨p.a, p.q, noLk, none, false, p.ca, p.tb⟩
/-- nothing but the pool -/
structure Std (K : PySem.W.Frag) (p : Pa) : Prop where
  lk : p.lk = noLk
  io : p.io = none
  fr : p.fr = false
  tb : p.tb = tabK K
/-- a def's name, as it is called within an except suite -/
def hotN (f : Str) : Str := ⟨f.cps.push 126⟩
inductive ArA (K : PySem.W.Frag) (p : Pa) (B : Hp) : List V → List (Option D) → Prop
  | nil : ArA K p B [] []
  | cons {v : V} {vs : List V} {d : D} {ds : List (Option D)} : Rp K B v d → ArA K p B vs ds → ArA K p B (v :: vs) (some d :: ds)
  | pool {vs : List V} {ds : List (Option D)} : ArA K p B vs ds → ArA K p B (.ref p :: vs) (none :: ds)
  | cell {k : Nat} {a : Addr} {vs : List V} {ds : List (Option D)} : p.ca k = some a → ArA K p B vs ds → ArA K p B (.ref a :: vs) (some (handle k) :: ds)
theorem Bs.o {p : Pa} {st : Pl} {B F H : Hp} (w : Bs p st B F H) : Bs p.o st B F H := ⟨w.b, w.f, w.d, w.pf, w.pb, w.pl, ⟨w.ce.at_, w.ce.b, w.ce.inj, w.ce.tn, w.ce.tt⟩⟩
theorem Bs.u {p : Pa} {st : Pl} {B F H : Hp} (w : Bs p.o st B F H) : Bs p st B F H := ⟨w.b, w.f, w.d, w.pf, w.pb, w.pl, ⟨w.ce.at_, w.ce.b, w.ce.inj, w.ce.tn, w.ce.tt⟩⟩
theorem ArA.o {K : PySem.W.Frag} {p : Pa} {B : Hp} : ∀ {vs : List V} {as : List (Option D)}, ArA K p B vs as → ArA K p.o B vs as
  | _, _, .nil => .nil
  | _, _, .cons h r => .cons h (ArA.o r)
  | _, _, .pool r => .pool (ArA.o r)
  | _, _, .cell h r => .cell h (ArA.o r)
/-- a def over data -/
def spF (K : PySem.W.Frag) (cl : Cl) (f : Str) : Sp := fun vs H Q _ => ∃ (p : Pa) (st : Pl) (B F : Hp) (as : List (Option D)) (d : D) (st' : Pl), Std K p ∧ Bs p st B F H ∧ ArA K p B vs as ∧ cl f as st = some (d, st') ∧
  ∀ v B' H', Ex B B' → Bs p st' B' F H' → Rp K B' v d → Q v H'
/-- a generator def over data: all that it hands out -/
def spL (K : PySem.W.Frag) (cl : Cl) (f : Str) : SpG := fun vs H cont _ => ∃ (p : Pa) (st : Pl) (B F : Hp) (as : List (Option D)) (out : List D) (st' : Pl), Std K p ∧ Bs p st B F H ∧ ArA K p B vs as ∧ cl f as st = some (.list out, st') ∧
  ∀ xs B' H', Ex B B' → Bs p st' B' F H' → RpA K B' xs out → cont xs H'
/-- a def that changes the list it is handed last, over data -/
def spI (K : PySem.W.Frag) (cl : Cl) (f : Str) : Sp := fun vs H Q _ => ∃ (p : Pa) (st : Pl) (B F : Hp) (as : List (Option D)) (us : List V) (a : Addr) (xs : List V) (ds out : List D) (st' : Pl), Std K p ∧ Bs p st B F H ∧ vs = us ++ [.ref a] ∧ ArA K p B us as ∧
  H a = some (.lst xs) ∧ B a = none ∧ F a = none ∧ NotP p a ∧ RpA K B xs ds ∧ cl (ioN f) (as ++ [some (.list ds)]) st = some (.list out, st') ∧
  ∀ B' H' ys, Ex B B' → Bs p st' B' F H' → B' a = none → H' a = some (.lst ys) → RpA K B' ys out → Q .non H'
/-- None, or a new list -/
def RtF (K : PySem.W.Frag) (p : Pa) (B F H : Hp) (v : V) (d : D) : Prop := (d = .none ∧ v = .non) ∨ ∃ (a : Addr) (xs : List V) (ds : List D), d = .list ds ∧ v = .ref a ∧ H a = some (.lst xs) ∧ RpA K B xs ds ∧ B a = none ∧ F a = none ∧ NotP p a
def RtV (K : PySem.W.Frag) (p : Pa) (B F H : Hp) (v : V) (d : D) : Prop := if p.fr = true then RtF K p B F H v d else Rp K B v d
theorem RtV.f {K : PySem.W.Frag} {p : Pa} {B F H : Hp} {v : V} {d : D} (h : p.fr = false) : RtV K p B F H v d = Rp K B v d := by
  unfold RtV
  rw [h]
  rfl
theorem RtV.t {K : PySem.W.Frag} {p : Pa} {B F H : Hp} {v : V} {d : D} (h : p.fr = true) : RtV K p B F H v d = RtF K p B F H v d := by
  unfold RtV
  rw [h]
  rfl
/-- a def that returns a new list or None, over data -/
def spR (K : PySem.W.Frag) (cl : Cl) (f : Str) : Sp := fun vs H Q _ => ∃ (p : Pa) (st : Pl) (B F : Hp) (as : List (Option D)) (d : D) (st' : Pl), Std K p ∧ Bs p st B F H ∧ ArA K p B vs as ∧ cl f as st = some (d, st') ∧
  ∀ v B' H', Ex B B' → Bs p st' B' F H' → RtF K p B' F H' v d → Q v H'
/-- an own error that is on its way -/
def Raised (mg : Str → Option Value) (es : List (Str × Str)) (K : PySem.W.Frag) (p : Pa) (B F : Hp) (er : Er) (cls : Value) (d : Addr) (H : Hp) : Prop := ∃ (C : Addr) (fld : Str) (u : V),
  (er.1, fld) ∈ es ∧ mg er.1 = some (.ref C) ∧ cls = .ref C ∧ H d = some (.xd [(fld, u)]) ∧ Rp K B u er.2 ∧ B d = none ∧ F d = none ∧ d ≠ p
/-- a def over data that may raise -/
def spG (mg : Str → Option Value) (es : List (Str × Str)) (K : PySem.W.Frag) (cl : Cl) (f : Str) : Sp := fun vs H Q E => ∃ (p : Pa) (st : Pl) (B F : Hp) (as : List (Option D)), Std K p ∧ Bs p st B F H ∧ ArA K p B vs as ∧
  ((∃ d st', cl f as st = some (d, st') ∧ ∀ v B' H', Ex B B' → Bs p st' B' F H' → Rp K B' v d → Q v H') ∨
   (∃ dd er st', cl (bang f) as st = some (dd, st') ∧ erOf dd = some er ∧ ∀ cls d B' H', Ex B B' → Bs p st' B' F H' → Raised mg es K p B' F er cls d H' → E cls (some d) H'))
/-- a caught error, where its suite stands -/
structure CaughtAt (X : Cx) (a dd : Addr) (c fld : Str) : Prop where
  ex : ∃ (X0 : Cx) (oe : Obj) (pn : List (Addr × Obj)) (C : Addr), X = X0.suite a ((a, oe) :: pn) ∧ Zc (.ref C) (some dd) oe ∧ (∃ vs, oe.data = .fields vs) ∧ X.mg c = some (.ref C)
/-- what the errors' classes say -/
structure ErrFacts (Γ : Gam) (K : PySem.W.Frag) (mg : Str → Option Value) : Prop where
  cl : ∀ q ∈ Γ.es, ∀ C, mg q.1 = some (.ref C) → XfC K C ∧ ExcC K C ∧ PySem.W.findIn K (.ref C) q.2 = some none
  ki : ∀ q ∈ Γ.ks, ∀ C, mg q.1 = some (.ref C) → (∃ D, mg q.2.1 = some (.ref D) ∧ PySem.W.kitOne K (.ref C) (.ref D) = some q.2.2) ∨
    (∃ n : String, mg q.2.1 = none ∧ bootBuiltins q.2.1 = some (.type n) ∧ q.2.1 ≠ "__name__" ∧ PySem.W.kitOne K (.ref C) (.type n) = some q.2.2)
  tr : ∀ q ∈ Γ.ts, ∀ C, mg q.1 = some (.ref C) → ∃ D, mg q.2.1 = some (.ref D) ∧ PySem.W.exmOne K (.ref C) (.ref D) = some q.2.2
  gc : ∀ q ∈ Γ.gs, ∃ u v, mg q.1 = some u ∧ RelV v u ∧ ∀ B, Rp K B v q.2
def Cst.v : Cst → V
  | .non => .non
  | .bl b => .bl b
  | .int i => .int i
  | .str s => .str s
/-- a dict of the module with text keys -/
def DctAt (K : PySem.W.Frag) (w : World) (mg : Str → Option Value) (q : Str × List (Str × D)) : Prop := ∃ d es n, mg q.1 = some (.ref d) ∧ KDict K w d es n ∧
  ∀ z, (q.2.lookup z = none → PySem.W.nsIn K d z = some none) ∧ ∀ dd, q.2.lookup z = some dd → ∃ u v, PySem.W.nsIn K d z = some (some u) ∧ RelV v u ∧ ∀ B, Rp K B v dd
/-- where a lambda may be made -/
def LmAt (X : Cx) : Prop := ∃ c P, X.env.code = .ref c ∧ LamX.TabB X.base X.mg c P ∧ tabK X.K = [(P, X.env.qual ++ "<lambda>")]
structure Okx (Γ : Gam) (X : Cx) (p : Pa) : Prop where
  K : X.K = Γ.K
  N : X.N = Γ.N
  nd : Γ.N.Nodup
  sc : X.env.scope = Γ.sc
  calm : Γ.hot = false → X.calm = true
  hotc : Γ.hot = true → L2H.HotC X
  units : X.A.units + 100 < cLine
  fn : Γ.hot = false → ∀ f ∈ Γ.fs, ∃ fa fd ps k, FnOk X.prog X.w X.K X.mg X.base (L2N.CX X.prog X.w) k fa fd ps (spF Γ.K Γ.cl f) ∧ X.mg f = some (.ref fa) ∧ PySem.W.keepIn X.K (.ref fa) = true ∧ Binds X.K fd ps [] ∧ Room k X.A
  fnh : ∀ f ∈ Γ.hs, ∃ fa fd ps k, L2H.FnH X.prog X.w X.K X.mg X.base (L2N.CX X.prog X.w) k fa fd ps (spF Γ.K Γ.cl (hotN f)) ∧ X.mg f = some (.ref fa) ∧ PySem.W.keepIn X.K (.ref fa) = true ∧ Binds X.K fd ps [] ∧ L2H.RoomH k X.A
  bl : ∀ f ∈ Γ.bs, X.mg f = none
  xn : Γ.hot = false → ∀ f ∈ Γ.xs, ∃ fa fd ps k, FnOk X.prog X.w X.K X.mg X.base (L2N.CX X.prog X.w) k fa fd ps (spG X.mg Γ.es Γ.K Γ.cl f) ∧ X.mg f = some (.ref fa) ∧ PySem.W.keepIn X.K (.ref fa) = true ∧ Binds X.K fd ps [] ∧ Room k X.A
  er : Γ.hot = false → ∀ q ∈ Γ.es, ∃ C, ErrAt X q.1 q.2 C
  df : Γ.hot = false → ∀ q ∈ Γ.df, ∃ fa fd ps k us, FnOk X.prog X.w X.K X.mg X.base (L2N.CX X.prog X.w) k fa fd ps (spG X.mg Γ.es Γ.K Γ.cl q.1) ∧ X.mg q.1 = some (.ref fa) ∧ PySem.W.keepIn X.K (.ref fa) = true ∧ Binds X.K fd ps us ∧ Vals (q.2.map Cst.v) us ∧ Room k X.A
  gn : Γ.hot = false → ∀ f ∈ Γ.gn, ∃ fa fd ps k, GFn X.prog X.w X.K X.mg X.base k fa fd ps (spL Γ.K Γ.cl f) ∧ X.mg f = some (.ref fa) ∧ PySem.W.keepIn X.K (.ref fa) = true ∧ Binds X.K fd ps [] ∧ Room (k + 3) X.A ∧ ∀ as st d st', Γ.cl f as st = some (d, st') → ∃ ys, d = PyData.list ys
  lk : Γ.hot = false → p.lk = noLk
  lkh : ∀ a dd c f, p.lk a dd c f → (c, f) ∈ Γ.es ∧ CaughtAt X a dd c f
  ef : ErrFacts Γ X.K X.mg
  tb : p.tb = tabK Γ.K
  kd : ∀ q ∈ Γ.kd, DctAt X.K X.w X.mg q
  lx : Γ.hot = false → ∀ f ∈ Γ.lx, ∃ fa fd ps k, FnOk X.prog X.w X.K X.mg X.base (L2N.CX X.prog X.w) k fa fd ps (spF Γ.K Γ.cl f) ∧ X.mg f = some (.ref fa) ∧ PySem.W.keepIn X.K (.ref fa) = true ∧ Binds X.K fd ps [] ∧ Room (k + 3) X.A
  lm : Γ.lm = true → LmAt X
def GlS (sc : Scope) (x : Str) : Prop := sc.names.lookup x = some .globalImplicit
theorem Okx.gl {Γ : Gam} {X : Cx} {p : Pa} (o : Okx Γ X p) {x : Str} (h : GlS Γ.sc x) : Gl X x := by
  show X.env.scope.names.lookup x = _
  rw [o.sc]
  exact h
def Gam.blk (Γ : Gam) (scope : Scope) : Gam := { Γ with sc := relS scope Γ.sc }
theorem Okx.blk {Γ : Gam} {X : Cx} {p : Pa} (o : Okx Γ X p) (hh : Γ.hot = false) (scope : Scope) (s : Shared) (H : Hp) (C : Addr) (cl : List (Str × Addr)) (fp : List Addr) : Okx (Γ.blk scope) (X.blk s H scope (compEnvC scope cl C X.env) fp) p where
  K := o.K
  N := o.N
  nd := o.nd
  sc := by
    show relabel scope X.env = relS scope Γ.sc
    unfold relabel relS
    rw [← o.sc]
    rfl
  calm := o.calm
  hotc := fun z => by
    rw [show (Γ.blk scope).hot = Γ.hot from rfl, hh] at z
    cases z
  units := o.units
  fn := o.fn
  fnh := o.fnh
  bl := o.bl
  xn := o.xn
  er := fun z q hq => by
    obtain ⟨C, h⟩ := o.er z q hq
    exact ⟨C, h.mg, h.oex, h.def_⟩
  df := o.df
  gn := o.gn
  lk := o.lk
  lkh := fun a dd c f h => by
    rw [o.lk hh] at h
    exact h.elim
  ef := ⟨o.ef.cl, o.ef.ki, o.ef.tr, o.ef.gc⟩
  tb := o.tb
  kd := o.kd
  lx := o.lx
  lm := o.lm
/-- a comprehension's own name: plain, or captured by what stands in it -/
def LcN (scope sc : Scope) (x : Str) : Prop := (relS scope sc).names.lookup x = some .local ∨ ((relS scope sc).names.lookup x = some .cell ∧ scope.names.lookup x = some .cell)
theorem LcN.loc {scope sc sc' : Scope} {x : Str} (h : LcN scope sc x) (e : sc' = relS scope sc) : Loc sc' x := by
  rw [e]
  rcases h with h | h
  · exact .inl h
  · exact .inr h.1
theorem LcN.fn {scope sc sc' : Scope} {x : Str} (h : LcN scope sc x) (e : sc' = relS scope sc) : (scope.names.lookup x == some .cell) = true ∨ sc'.names.lookup x = some .local := by
  rw [e]
  rcases h with h | h
  · exact .inr h
  · exact .inl (by rw [h.2]; rfl)
/-! ### readings -/
def Tx (K : PySem.W.Frag) (cl : Cl) (p : Pa) (e : IE) : TE := fun σ H Q => ∃ st B M F env d st', Rel K p st B M F env σ H ∧ ev cl e env st = some (d, st') ∧
  ∀ v B' H', Ex B B' → Rel K p st' B' M F env σ H' → Rp K B' v d → Q v H'
def Tt (K : PySem.W.Frag) (cl : Cl) (p : Pa) (e : IE) : TT := fun σ H Q => ∃ st B M F env b st', Rel K p st B M F env σ H ∧ ev cl e env st = some (.bool b, st') ∧
  ∀ B' H', Ex B B' → Rel K p st' B' M F env σ H' → Q b H'
def Ts (K : PySem.W.Frag) (cl : Cl) (p : Pa) (es : IEs) : TT := fun σ H Q => ∃ st B M F env b st', Rel K p st B M F env σ H ∧ et cl es env st = some (b, st') ∧
  ∀ B' H', Ex B B' → Rel K p st' B' M F env σ H' → Q b H'
def Ta (K : PySem.W.Frag) (cl : Cl) (p : Pa) (es : IEs) : TA := fun σ H Q => ∃ st B M F env ds st', Rel K p st B M F env σ H ∧ ea cl es env st = some (ds, st') ∧
  ∀ vs B' H', Ex B B' → Rel K p st' B' M F env σ H' → RpA K B' vs ds → Q vs H'
def Tg (K : PySem.W.Frag) (cl : Cl) (p : Pa) (es : IEs) : TA := fun σ H Q => ∃ st B M F env ds st', Rel K p st B M F env σ H ∧ ag cl es env st = some (ds, st') ∧
  ∀ vs B' H', Ex B B' → Rel K p st' B' M F env σ H' → ArA K p B' vs ds → Q vs H'
/-- a new list -/
def Tf (K : PySem.W.Frag) (cl : Cl) (p : Pa) (e : IE) : TE := fun σ H Q => ∃ st B M F env ds st', Rel K p st B M F env σ H ∧ ev cl e env st = some (.list ds, st') ∧
  ∀ a xs B' H', Ex B B' → B' a = none → M a = none → F a = none → NotP p a → H' a = some (.lst xs) → RpA K B' xs ds → Rel K p st' B' M F env σ H' → Q (.ref a) H'
def To (K : PySem.W.Frag) (cl : Cl) (p : Pa) (o : IO) : TO := fun σ H Q => ∃ st B M F env l st', Rel K p st B M F env σ H ∧ eo cl o env st = some (l, st') ∧
  ∀ B' H', Ex B B' → Rel K p st' B' M F env σ H' → Q l H'
section
variable {X : Cx} {e : Expr} {te te' : TE} {tt tt' : TT}
theorem PE_weak (h : PE X e te) (w : ∀ σ H Q, te' σ H Q → te σ H Q) : PE X e te' := ⟨fun pins s σ H Q I q => h.run pins s σ H Q I (w σ H Q q)⟩
theorem PT_weak (h : PT X e tt) (w : ∀ σ H Q, tt' σ H Q → tt σ H Q) : PT X e tt' := ⟨fun pins s σ H Q I q => h.run pins s σ H Q I (w σ H Q q)⟩
theorem PW_weak (h : PW X e tt) (w : ∀ σ H Q, tt' σ H Q → tt σ H Q) : PW X e tt' := ⟨fun wh pins s σ H Q I q => h.run wh pins s σ H Q I (w σ H Q q)⟩
theorem PA_weak {es : List Expr} {ta ta' : TA} (h : PA X es ta) (w : ∀ σ H Q, ta' σ H Q → ta σ H Q) : PA X es ta' := ⟨fun pos pins s σ H Q I q => h.run pos pins s σ H Q I (w σ H Q q)⟩
theorem PO_weak {o : Option Expr} {to to' : TO} (h : PO X o to) (w : ∀ σ H Q, to' σ H Q → to σ H Q) : PO X o to' := ⟨fun pins s σ H Q I q => h.run pins s σ H Q I (w σ H Q q)⟩
theorem PS_weak {st : Stmt} {t t' : TS} (h : PS X st t) (w : ∀ D σ H, t' D σ H → t D σ H) : PS X st t' := ⟨fun pins s σ H D I q => h.run pins s σ H D I (w D σ H q)⟩
theorem PSs_weak {st : List Stmt} {t t' : TS} (h : PSs X st t) (w : ∀ D σ H, t' D σ H → t D σ H) : PSs X st t' := ⟨fun pins s σ H D I q => h.run pins s σ H D I (w D σ H q)⟩
theorem PTs_weak {es : List Expr} (h : PTs X es tt) (w : ∀ σ H Q, tt' σ H Q → tt σ H Q) : PTs X es tt' := ⟨fun pins s σ H Q I q => h.run pins s σ H Q I (w σ H Q q)⟩
end
/-! ### an expression, a test, arguments: what is shown of each -/
def SE (Γ : Gam) (e : Expr) (i : IE) : Prop := ∀ X p, Okx Γ X p → PE X e (Tx Γ.K Γ.cl p i)
def SF (Γ : Gam) (e : Expr) (i : IE) : Prop := ∀ X p, Okx Γ X p → PE X e (Tf Γ.K Γ.cl p i)
def ST (Γ : Gam) (e : Expr) (i : IE) : Prop := ∀ X p, Okx Γ X p → PT X e (Tt Γ.K Γ.cl p i)
def SW (Γ : Gam) (e : Expr) (i : IE) : Prop := ∀ X p, Okx Γ X p → PW X e (Tt Γ.K Γ.cl p i)
def SA (Γ : Gam) (es : List Expr) (i : IEs) : Prop := ∀ X p, Okx Γ X p → PA X es (Ta Γ.K Γ.cl p i)
def SG (Γ : Gam) (es : List Expr) (i : IEs) : Prop := ∀ X p, Okx Γ X p → PA X es (Tg Γ.K Γ.cl p i)
def SO (Γ : Gam) (o : Option Expr) (i : IO) : Prop := ∀ X p, Okx Γ X p → PO X o (To Γ.K Γ.cl p i)
def STs (Γ : Gam) (es : List Expr) (i : IEs) : Prop := ∀ X p, Okx Γ X p → PTs X es (Ts Γ.K Γ.cl p i)
section
variable {K : PySem.W.Frag} {p : Pa} {st : Pl} {B M F : Hp} {env : List Sl} {σ : L2.St} {H : Hp}
/-- an own, new object becomes known -/
theorem Rel.know (r : Rel K p st B M F env σ H) {a : Addr} {o : HO} (h : H a = some o) (hb : B a = none) (hm : M a = none) (hf : F a = none) (hp : NotP p a) : Rel K p st (upd B a o) M F env σ H where
  bs := {
    b := fun c u e => by
      by_cases hc : c = a
      · subst hc
        rw [upd_same] at e
        rw [← e]
        exact h
      · rw [upd_ne hc] at e
        exact r.bs.b c u e
    f := r.bs.f
    d := fun c u e => by
      rw [upd_ne (ne_of_none e hf)]
      exact r.bs.d c u e
    pf := r.bs.pf
    pb := by
      rw [upd_ne (fun e => hp.1 e.symm)]
      exact r.bs.pb
    pl := by
      obtain ⟨h1, h2⟩ := r.bs.pl
      exact ⟨h1, Ex.new hb _ _ h2⟩
    ce := r.bs.ce.up (fun k c hk => ⟨by rw [upd_ne (fun e => hp.2.1 k (by rw [← e]; exact hk))]; exact (r.bs.ce.b k c hk).1, (r.bs.ce.b k c hk).2.1⟩) (fun _ _ _ => rfl) (fun q hq => ⟨by rw [upd_ne (hp.2.2 q hq)]; exact (r.bs.ce.tn q hq).1, (r.bs.ce.tn q hq).2⟩) fun z => z }
  m := r.m
  mc := r.mc
  mt := r.mt
  md := fun c u e => by
    obtain ⟨h1, h2, h3⟩ := r.md c u e
    refine ⟨?_, h2, h3⟩
    rw [upd_ne (ne_of_none e hm)]
    exact h1
  en := r.en.mono (Ex.new hb)
end
section
variable {Γ : Gam} {e a b c : Expr} {ia ib ic i : IE} {pos : Pos}
/-- a new list, as a value -/
theorem SF.se (h : SF Γ e i) (hl : ∀ cl env st d st', ev cl i env st = some (d, st') → ∃ ds, d = .list ds) : SE Γ e i := fun X p o => PE_weak (h X p o) fun σ H Q q => by
  obtain ⟨st, B, M, F, env, d, st', r, he, k⟩ := q
  obtain ⟨ds, rfl⟩ := hl _ _ _ _ _ he
  refine ⟨st, B, M, F, env, ds, st', r, he, fun a xs B' H' e1 hb hm hf hp ha hr r' => ?_⟩
  exact k (.ref a) _ H' (e1.trans (Ex.new hb)) (r'.know ha hb hm hf hp) (.lst upd_same (hr.mono (Ex.new hb)))
theorem se_var (n : Nat) {x : Str} (hN : Γ.N[n]? = some x := by rfl) (hv : Vis Γ.sc x := by first | exact Or.inl rfl | exact Or.inr (Or.inl rfl) | exact Or.inr (Or.inr rfl)) (hd : (x == ("__debug__" : Str)) = false := by decide) (hcd : (x == ("__classdict__" : Str)) = false := by decide) :
    SE Γ (.Name x pos) (.var n) := fun X p o => PE_weak (pe_var (i := n) (by rw [o.N]; exact hN) (by rw [o.sc]; exact hv) hd hcd) fun σ H Q q => by
  obtain ⟨st, B, M, F, env, d, st', r, he, k⟩ := q
  unfold ev at he
  split at he
  · rename_i d' e1
    cases he
    obtain ⟨ov, h1, h2⟩ := r.en.at_ n _ e1
    cases ov with
    | none => exact h2.elim
    | some v => exact ⟨v, h1, k v B H (Ex.refl B) r h2⟩
  · cases he
theorem se_cst {K : PySem.W.Frag} (c : Cst) {v : V} (h : ∀ X : Cx, PE X e (tC v)) (hv : ∀ K B, Rp K B v c.d) : SE Γ e (.cst c) := fun X p o => PE_weak (h X) fun σ H Q q => by
  obtain ⟨st, B, M, F, env, d, st', r, he, k⟩ := q
  unfold ev at he
  cases he
  exact k v B H (Ex.refl B) r (hv _ B)
theorem se_int {n : Int} {j} : SE Γ (.Constant (.int n) j pos) (.cst (.int n)) := se_cst (K := Γ.K) (.int n) (fun _ => pe_int) fun _ _ => .int n
theorem se_str {x : Str} {j} : SE Γ (.Constant (.str x) j pos) (.cst (.str x)) := se_cst (K := Γ.K) (.str x) (fun _ => pe_str) fun _ _ => .str x
theorem se_bl {x : Bool} {j} : SE Γ (.Constant (.bool x) j pos) (.cst (.bl x)) := se_cst (K := Γ.K) (.bl x) (fun _ => pe_bl) fun _ _ => .bl x
theorem se_non {j} : SE Γ (.Constant .none j pos) (.cst .non) := se_cst (K := Γ.K) .non (fun _ => pe_non) fun _ _ => .non
/-- two operands -/
theorem tx_bin {K : PySem.W.Frag} {cl : Cl} {i : IE} {r : R2} {σ : L2.St} {H : Hp} {Q : VK} {f : D → D → Option D} (hi : ∀ env st, ev cl i env st = (match ev cl ia env st with
    | some (x, st1) => (match ev cl ib env st1 with
      | some (y, st2) => (f x y).map fun d => (d, st2)
      | none => none)
    | none => none))
    (hr : ∀ {st B M F env x y z v u H}, Rel K p st B M F env σ H → Rp K B v x → Rp K B u y → f x y = some z → ∀ Q : VK, (∀ w B' H', Ex B B' → Rel K p st B' M F env σ H' → Rp K B' w z → Q w H') → r v u H Q)
    (q : Tx K cl p i σ H Q) : tOp r (Tx K cl p ia) (Tx K cl p ib) σ H Q := by
  obtain ⟨st, B, M, F, env, d, st', rl, he, k⟩ := q
  rw [hi] at he
  cases e1 : ev cl ia env st with
  | none =>
    rw [e1] at he
    cases he
  | some xs =>
    obtain ⟨x, st1⟩ := xs
    rw [e1] at he
    cases e2 : ev cl ib env st1 with
    | none =>
      simp only [e2] at he
      cases he
    | some ys =>
      obtain ⟨y, st2⟩ := ys
      simp only [e2] at he
      cases e3 : f x y with
      | none =>
        rw [e3] at he
        cases he
      | some z =>
        rw [e3] at he
        cases he
        exact ⟨st, B, M, F, env, x, st1, rl, e1, fun v B1 H1 x1 r1 p1 => ⟨st1, B1, M, F, env, y, _, r1, e2, fun u B2 H2 x2 r2 p2 =>
          hr r2 (p1.mono x2) p2 e3 Q fun w B' H' x3 r3 p3 => k w B' H' ((x1.trans x2).trans x3) r3 p3⟩⟩
end
end Ip

set_option Elab.async false
set_option linter.all false
set_option maxRecDepth 100000
set_option maxHeartbeats 4000000
namespace Ip
open PySem L2
theorem most_line {n : Nat} (h : n ≤ most) : n ≤ sizeLine := Nat.le_trans h (by decide)
theorem most_lt {n : Nat} (h : n < most) : n < sizeLine := Nat.lt_of_lt_of_le h (by decide)
theorem ite_some {c : Prop} [Decidable c] {α : Type} {x z : α} (h : (if c then some x else none) = some z) : c ∧ x = z := by
  by_cases hc : c
  · rw [if_pos hc] at h
    exact ⟨hc, Option.some.inj h⟩
  · rw [if_neg hc] at h
    cases h
section
variable {Γ : Gam} {e a b c : Expr} {ia ib ic i : IE} {pos : Pos}
/-! ### + - * // % ** -/
abbrev rAddD (K : PySem.W.Frag) : R2 := fun x y H Q => (rI0 (fun i j => .int (i + j)) x y H Q ∨ (∃ i j, x = .str i ∧ y = .str j ∧ i.length + j.length ≤ sizeLine ∧ Q (.str (i ++ j)) H)) ∨ (rCat x y H Q ∨ rCatA K x y H Q)
theorem bin_add (ha : SE Γ a ia) (hb : SE Γ b ib) : SE Γ (.BinOp a .Add b pos) (.bin .add ia ib) := fun X p o => PE_weak (pe_op (OpR.or (OpR.or op_add op_add_str) (OpR.or op_cat op_catA)) (ha X p o) (hb X p o)) fun σ H Q q => by
  refine tx_bin (f := binD .add) (fun env st => rfl) ?_ q
  intro st B M F env x y z v u H r px py h Q k
  rw [o.K]
  cases px with
  | int i =>
    cases py with
    | int j =>
      cases h
      exact .inl (.inl ⟨i, j, rfl, rfl, k _ B H (Ex.refl B) r (.int _)⟩)
    | _ => cases h
  | str s =>
    cases py with
    | str t =>
      obtain ⟨hl, rfl⟩ := ite_some (show (if s.length + t.length ≤ most then some (PyData.str (s ++ t)) else none) = some z from h)
      exact .inl (.inr ⟨s, t, rfl, rfl, most_line hl, k _ B H (Ex.refl B) r (.str _)⟩)
    | _ => cases h
  | @lst _ _ xs hx rx =>
    cases py with
    | @lst _ _ ys hy ry =>
      obtain ⟨hl, rfl⟩ := ite_some (show (if xs.length + ys.length ≤ most then some (PyData.list (xs ++ ys)) else none) = some z from h)
      · refine .inr (.inl ⟨_, _, _, _, rfl, rfl, r.bs.b _ _ hx, r.bs.b _ _ hy, most_line (by rw [rx.length, ry.length]; exact hl), fun q hq => ?_⟩)
        exact k (.ref q) _ _ (Ex.new (r.bs.b.free hq)) (r.new hq) (.lst upd_same ((rx.append ry).mono (Ex.new (r.bs.b.free hq))))
    | _ => cases h
  | @tup _ _ xs hx rx =>
    cases py with
    | @tup _ _ ys hy ry =>
      obtain ⟨hl, rfl⟩ := ite_some (show (if xs.length + ys.length ≤ most then some (PyData.tuple (xs ++ ys)) else none) = some z from h)
      · refine .inr (.inr ⟨_, _, _, _, rfl, rfl, sqt_mono r.bs.b hx, sqt_mono r.bs.b hy, most_line (by rw [rx.length, ry.length]; exact hl), fun e => ?_, fun e1 e2 => ?_, fun e1 e2 q hq => ?_⟩)
        · subst e
          cases rx
          exact k _ B H (Ex.refl B) r (.tup hy ry)
        · subst e2
          cases ry
          rw [List.append_nil] at k
          exact k _ B H (Ex.refl B) r (.tup hx rx)
        · exact k (.ref q) _ _ (Ex.new (r.bs.b.free hq)) (r.new hq) (.tup (Or.inl (Or.inl upd_same)) ((rx.append ry).mono (Ex.new (r.bs.b.free hq))))
    | _ => cases h
  | _ => cases h
theorem bin_int {op : Operator} {o : Bop} {C : Int → Int → Prop} {g : Int → Int → Int} (hop : ∀ X : Cx, OpR X (binaryOp op) (rI C fun i j => .int (g i j)))
    (hd : ∀ x y z, binD o x y = some z → ∃ i j, x = .int i ∧ y = .int j ∧ C i j ∧ z = .int (g i j)) (ha : SE Γ a ia) (hb : SE Γ b ib) : SE Γ (.BinOp a op b pos) (.bin o ia ib) := fun X p ok => PE_weak (pe_op (hop X) (ha X p ok) (hb X p ok)) fun σ H Q q => by
  refine tx_bin (f := binD o) (fun env st => by cases o <;> rfl) ?_ q
  intro st B M F env x y z v u H r px py h Q k
  obtain ⟨i, j, rfl, rfl, hc, rfl⟩ := hd _ _ _ h
  cases px
  cases py
  exact ⟨i, j, rfl, rfl, hc, k _ B H (Ex.refl B) r (.int _)⟩
theorem bin_sub (ha : SE Γ a ia) (hb : SE Γ b ib) : SE Γ (.BinOp a .Sub b pos) (.bin .sub ia ib) :=
  bin_int (C := fun _ _ => True) (g := fun i j => i - j) (fun X pins s σ H x y v u Q I rx ry ⟨i, j, e1, e2, _, q⟩ => op_sub pins s σ H x y v u Q I rx ry ⟨i, j, e1, e2, q⟩)
    (fun x y z h => by cases x <;> cases y <;> first | (cases h; done) | exact ⟨_, _, rfl, rfl, True.intro, (Option.some.inj h).symm⟩) ha hb
theorem bin_mul (ha : SE Γ a ia) (hb : SE Γ b ib) : SE Γ (.BinOp a .Mult b pos) (.bin .mul ia ib) := fun X p o => PE_weak (pe_op (OpR.or op_mul op_mul_sgn) (ha X p o) (hb X p o)) fun σ H Q q => by
  refine tx_bin (f := binD .mul) (fun env st => rfl) ?_ q
  intro st B M F env x y z v u H r px py h Q k
  cases px with
  | int i =>
    cases py with
    | int j =>
      obtain ⟨hl, rfl⟩ := ite_some (show (if i.natAbs < 2 ^ 64 ∨ j.natAbs < 2 ^ 64 then some (PyData.int (i * j)) else none) = some z from h)
      refine .inl ⟨i, j, rfl, rfl, ?_, k _ B H (Ex.refl B) r (.int _)⟩
      rcases hl with hl | hl
      · exact .inl (by omega)
      · exact .inr (by omega)
    | _ => cases h
  | str s =>
    cases py with
    | int j =>
      obtain ⟨⟨h1, h2, h3⟩, rfl⟩ := ite_some (show (if s.length = 1 ∧ -1000 ≤ j ∧ j ≤ 1000 then some (PyData.str (repS s j)) else none) = some z from h)
      exact .inr ⟨s, j, rfl, rfl, h1, h2, h3, k _ B H (Ex.refl B) r (.str _)⟩
    | _ => cases h
  | _ => cases h
theorem bin_fdv (ha : SE Γ a ia) (hb : SE Γ b ib) : SE Γ (.BinOp a .FloorDiv b pos) (.bin .fdv ia ib) :=
  bin_int (C := CDiv) (g := fun i j => i / j) (fun _ => op_fdiv) (fun x y z h => by
    cases x <;> cases y <;> first | (cases h; done) | skip
    rename_i i j
    obtain ⟨hl, rfl⟩ := ite_some (show (if 0 < j ∧ j < 1073741824 then some (PyData.int (i / j)) else none) = some z from h)
    exact ⟨_, _, rfl, rfl, hl, rfl⟩) ha hb
theorem bin_mod (ha : SE Γ a ia) (hb : SE Γ b ib) : SE Γ (.BinOp a .Mod b pos) (.bin .mod ia ib) :=
  bin_int (C := fun _ j => 0 < j) (g := fun i j => i % j) (fun _ => op_mod) (fun x y z h => by
    cases x <;> cases y <;> first | (cases h; done) | skip
    rename_i i j
    obtain ⟨hl, rfl⟩ := ite_some (show (if 0 < j then some (PyData.int (i % j)) else none) = some z from h)
    exact ⟨_, _, rfl, rfl, hl, rfl⟩) ha hb
theorem bin_pow (ha : SE Γ a ia) (hb : SE Γ b ib) : SE Γ (.BinOp a .Pow b pos) (.bin .pow ia ib) :=
  bin_int (C := CPow) (g := fun i j => i ^ j.toNat) (fun _ => op_pow) (fun x y z h => by
    cases x <;> cases y <;> first | (cases h; done) | skip
    rename_i i j
    obtain ⟨hl, rfl⟩ := ite_some (show (if 0 ≤ j ∧ j ≤ 64 ∧ i.natAbs < 2 ^ 64 then some (PyData.int (i ^ j.toNat)) else none) = some z from h)
    exact ⟨_, _, rfl, rfl, ⟨hl.1, by omega, hl.2.2⟩, rfl⟩) ha hb
/-! ### comparisons -/
theorem tx_cmp {K : PySem.W.Frag} {cl : Cl} {o : Cop} {r : R2} {σ : L2.St} {H : Hp} {Q : VK}
    (hr : ∀ {st B M F env x y z v u H}, Rel K p st B M F env σ H → Rp K B v x → Rp K B u y → cmpD o x y = some z → ∀ Q : VK, Q (.bl z) H → r v u H Q)
    (q : Tx K cl p (.cmp o ia ib) σ H Q) : tOp r (Tx K cl p ia) (Tx K cl p ib) σ H Q := by
  obtain ⟨st, B, M, F, env, d, st', rl, he, k⟩ := q
  unfold ev at he
  cases e1 : ev cl ia env st with
  | none =>
    rw [e1] at he
    cases he
  | some xs =>
    obtain ⟨x, st1⟩ := xs
    rw [e1] at he
    cases e2 : ev cl ib env st1 with
    | none =>
      simp only [e2] at he
      cases he
    | some ys =>
      obtain ⟨y, st2⟩ := ys
      simp only [e2] at he
      cases e3 : cmpD o x y with
      | none =>
        rw [e3] at he
        cases he
      | some z =>
        rw [e3] at he
        cases he
        exact ⟨st, B, M, F, env, x, st1, rl, e1, fun v B1 H1 x1 r1 p1 => ⟨st1, B1, M, F, env, y, _, r1, e2, fun u B2 H2 x2 r2 p2 =>
          hr r2 (p1.mono x2) p2 e3 Q (k _ B2 H2 (x1.trans x2) r2 (.bl _))⟩⟩
theorem tt_cmp {K : PySem.W.Frag} {cl : Cl} {o : Cop} {r : R2} {σ : L2.St} {H : Hp} {Q : Bool → Hp → Prop}
    (hr : ∀ {st B M F env x y z v u H}, Rel K p st B M F env σ H → Rp K B v x → Rp K B u y → cmpD o x y = some z → ∀ Q : VK, Q (.bl z) H → r v u H Q)
    (q : Tt K cl p (.cmp o ia ib) σ H Q) : tTest (tOp r (Tx K cl p ia) (Tx K cl p ib)) σ H Q := by
  obtain ⟨st, B, M, F, env, b, st', rl, he, k⟩ := q
  refine tx_cmp hr ⟨st, B, M, F, env, _, st', rl, he, fun v B' H' x r pv => ?_⟩
  cases pv
  exact ⟨b, rfl, k B' H' x r⟩
/-- a comparison's rule, over data -/
structure CmpOk (op : CmpOp) (o : Cop) where
  r : PySem.W.Frag → R2
  ok : ∀ X : Cx, X.A.units + 64 < cLine → OpR X (compareOp op) (r X.K)
  rd : ∀ {K σ p st B M F env x y z v u H}, Rel K p st B M F env σ H → Rp K B v x → Rp K B u y → cmpD o x y = some z → ∀ Q : VK, Q (.bl z) H → r K v u H Q
theorem cmp_se {op : CmpOp} {o : Cop} (C : CmpOk op o) (ha : SE Γ a ia) (hb : SE Γ b ib) (hm : behindInMarks op b = false) : SE Γ (.Compare a [op] [b] pos) (.cmp o ia ib) := fun X p ok =>
  PE_weak (pe_cmpR (C.ok X (by have := ok.units; omega)) (ha X p ok) (hb X p ok) hm) fun σ H Q q => by
    rw [ok.K]
    exact tx_cmp (fun r1 p1 p2 e Q q => C.rd r1 p1 p2 e Q q) q
theorem cmp_st {op : CmpOp} {o : Cop} (C : CmpOk op o) (ha : SE Γ a ia) (hb : SE Γ b ib) (hm : behindInMarks op b = false) : ST Γ (.Compare a [op] [b] pos) (.cmp o ia ib) := fun X p ok =>
  PT_weak (pt_cmpR (C.ok X (by have := ok.units; omega)) (ha X p ok) (hb X p ok) hm) fun σ H Q q => by
    rw [ok.K]
    exact tt_cmp (fun r1 p1 p2 e Q q => C.rd r1 p1 p2 e Q q) q
theorem eq_rd {K : PySem.W.Frag} {σ : L2.St} {p : Pa} {st : Pl} {B M F : Hp} {env : List Sl} {x y : D} {z : Bool} {v u : V} {H : Hp} (r : Rel K p st B M F env σ H) (px : Rp K B v x) (py : Rp K B u y) (h : eqD x y = some z) :
    (scal v u = true ∧ decide (v = u) = z) ∨ (SeqAt.shaped x = true ∧ SeqAt.shaped y = true ∧ PyData.eqv x y = z) := by
  have sh : (if SeqAt.shaped x = true ∧ SeqAt.shaped y = true then some (PyData.eqv x y) else none) = some z → SeqAt.shaped x = true ∧ SeqAt.shaped y = true ∧ PyData.eqv x y = z := fun h => by
    obtain ⟨hl, e⟩ := ite_some h
    exact ⟨hl.1, hl.2, e⟩
  cases px with
  | str s =>
    cases py with
    | str t =>
      refine .inl ⟨rfl, ?_⟩
      cases h
      simp
    | int i =>
      cases h
      exact .inl ⟨rfl, by simp⟩
    | _ => exact .inr (sh h)
  | int i =>
    cases py with
    | int j =>
      refine .inl ⟨rfl, ?_⟩
      cases h
      simp
    | str t =>
      cases h
      exact .inl ⟨rfl, by simp⟩
    | _ => exact .inr (sh h)
  | bl a =>
    cases py with
    | bl b =>
      refine .inl ⟨rfl, ?_⟩
      cases h
      simp
    | _ => exact .inr (sh h)
  | _ => exact .inr (sh (by cases py <;> exact h))
def cEq : CmpOk .Eq .eq where
  r := fun K x y H Q => rEq x y H Q ∨ rEqD K x y H Q
  ok := fun X hu => OpR.or op_eq (op_eqD hu)
  rd := fun {K σ p st B M F env x y z v u H} r px py h Q q => by
    rcases eq_rd (σ := σ) r px py h with ⟨h1, h2⟩ | ⟨h1, h2, h3⟩
    · exact .inl ⟨h1, by rw [h2]; exact q⟩
    · exact .inr ⟨x, y, px.dp r.bs.b, py.dp r.bs.b, h1, h2, by rw [h3]; exact q⟩
def cNe : CmpOk .NotEq .ne where
  r := fun K x y H Q => rNe x y H Q ∨ rNeD K x y H Q
  ok := fun X hu => OpR.or op_ne (op_neD hu)
  rd := fun {K σ p st B M F env x y z v u H} r px py h Q q => by
    obtain ⟨w, hw, rfl⟩ := Option.map_eq_some_iff.mp (show (eqD x y).map (!·) = some z from h)
    rcases eq_rd (σ := σ) r px py hw with ⟨h1, h2⟩ | ⟨h1, h2, h3⟩
    · exact .inl ⟨h1, by rw [h2]; exact q⟩
    · exact .inr ⟨x, y, px.dp r.bs.b, py.dp r.bs.b, h1, h2, by rw [h3]; exact q⟩
def cInt {op : CmpOp} {o : Cop} (g : Int → Int → Bool) (hop : ∀ X : Cx, OpR X (compareOp op) (rI0 fun i j => .bl (g i j))) (hd : ∀ x y z, cmpD o x y = some z → ∃ i j, x = .int i ∧ y = .int j ∧ z = g i j) : CmpOk op o where
  r := fun _ => rI0 fun i j => .bl (g i j)
  ok := fun X _ => hop X
  rd := fun {K σ p st B M F env x y z v u H} r px py h Q q => by
    obtain ⟨i, j, rfl, rfl, rfl⟩ := hd _ _ _ h
    cases px
    cases py
    exact ⟨i, j, rfl, rfl, q⟩
def cLt : CmpOk .Lt .lt := cInt (fun i j => decide (i < j)) (fun _ => op_lt) fun x y z h => by cases x <;> cases y <;> first | (cases h; done) | exact ⟨_, _, rfl, rfl, (Option.some.inj h).symm⟩
def cLe : CmpOk .LtE .le := cInt (fun i j => decide (i ≤ j)) (fun _ => op_le) fun x y z h => by cases x <;> cases y <;> first | (cases h; done) | exact ⟨_, _, rfl, rfl, (Option.some.inj h).symm⟩
def cGt : CmpOk .Gt .gt := cInt (fun i j => decide (j < i)) (fun _ => op_gt) fun x y z h => by cases x <;> cases y <;> first | (cases h; done) | exact ⟨_, _, rfl, rfl, (Option.some.inj h).symm⟩
def cGe : CmpOk .GtE .ge := cInt (fun i j => decide (j ≤ i)) (fun _ => op_ge) fun x y z h => by cases x <;> cases y <;> first | (cases h; done) | exact ⟨_, _, rfl, rfl, (Option.some.inj h).symm⟩
theorem isNon_rp {K : PySem.W.Frag} {B : Hp} {v : V} {x : D} (h : Rp K B v x) : decide (v = .non) = (match x with
    | .none => true
    | _ => false) := by
  cases h <;> simp
def cIs : CmpOk .Is .isN where
  r := fun _ => fun x y H Q => y = .non ∧ Q (.bl (decide (x = .non))) H
  ok := fun X _ => op_isN
  rd := fun {K σ p st B M F env x y z v u H} r px py h Q q => by
    cases py with
    | non =>
      refine ⟨rfl, ?_⟩
      rw [isNon_rp px]
      cases px <;> (cases h; exact q)
    | _ => cases px <;> (cases h; done)
def cIsN : CmpOk .IsNot .noN where
  r := fun _ => fun x y H Q => y = .non ∧ Q (.bl (!decide (x = .non))) H
  ok := fun X _ => op_notN
  rd := fun {K σ p st B M F env x y z v u H} r px py h Q q => by
    cases py with
    | non =>
      refine ⟨rfl, ?_⟩
      rw [isNon_rp px]
      cases px <;> (cases h; exact q)
    | _ => cases px <;> (cases h; done)
theorem flat_rp {K : PySem.W.Frag} {B : Hp} {v : V} {x : D} (h : Rp K B v x) : flatV v = flatD x := by cases h <;> rfl
theorem flat_all {K : PySem.W.Frag} {B : Hp} : ∀ {vs : List V} {xs : List D}, RpA K B vs xs → vs.all flatV = xs.all flatD
  | _, _, .nil => rfl
  | _, _, .cons h r => by rw [List.all_cons, List.all_cons, flat_rp h, flat_all r]
theorem eqv_rp {K : PySem.W.Frag} {B : Hp} {v u : V} {x y : D} (h : Rp K B v x) (g : Rp K B u y) (fx : flatD x = true) (fy : flatD y = true) : eqV v u = PyData.eqv x y := by
  cases h <;> cases g <;> first | rfl | (exact nomatch fx) | (exact nomatch fy)
theorem mem_rp {K : PySem.W.Frag} {B : Hp} {u : V} {x : D} (h : Rp K B u x) (fx : flatD x = true) : ∀ {vs : List V} {ys : List D}, RpA K B vs ys → ys.all flatD = true → inV u vs = memD x ys
  | _, _, .nil, _ => rfl
  | _, _, .cons g r, f => by
    rw [List.all_cons, Bool.and_eq_true] at f
    have ih := mem_rp h fx r f.2
    unfold inV memD at ih ⊢
    rw [List.any_cons, List.any_cons, eqv_rp g h f.1 fx, ih]
def rInD (neg : Bool) (K : PySem.W.Frag) : R2 := fun x y H Q => rIn K neg x y H Q ∨ ∃ (c : Nat) (z : Str), x = .str ⟨#[c]⟩ ∧ y = .str z ∧ Q (.bl (if neg then !decide (c ∈ z.cps.toList) else decide (c ∈ z.cps.toList))) H
theorem str_one {s : Str} (h : s.length = 1) : s = ⟨#[s.cps.getD 0 0]⟩ := by
  obtain ⟨⟨l⟩⟩ := s
  match l, h with
  | [c], _ => rfl
theorem in_rd {neg : Bool} {K : PySem.W.Frag} {σ : L2.St} {p : Pa} {st : Pl} {B M F : Hp} {env : List Sl} {x y : D} {z : Bool} {v u : V} {H : Hp} (r : Rel K p st B M F env σ H) (px : Rp K B v x) (py : Rp K B u y) (h : inD x y = some z) (Q : VK)
    (q : Q (.bl (if neg then !z else z)) H) : rInD neg K v u H Q := by
  cases py with
  | @lst a xs ys hy ry =>
    obtain ⟨hl, rfl⟩ := ite_some (show (if flatD x = true ∧ ys.all flatD = true then some (memD x ys) else none) = some z from h)
    refine .inl ⟨a, xs, rfl, .inl (Or.inl (Or.inl (r.bs.b _ _ hy))), by rw [flat_rp px]; exact hl.1, by rw [flat_all ry]; exact hl.2, ?_⟩
    rw [mem_rp px hl.1 ry hl.2]
    exact q
  | @tup a xs ys hy ry =>
    obtain ⟨hl, rfl⟩ := ite_some (show (if flatD x = true ∧ ys.all flatD = true then some (memD x ys) else none) = some z from h)
    refine .inl ⟨a, xs, rfl, .inr (sqt_mono r.bs.b hy), by rw [flat_rp px]; exact hl.1, by rw [flat_all ry]; exact hl.2, ?_⟩
    rw [mem_rp px hl.1 ry hl.2]
    exact q
  | str t =>
    cases px with
    | str s =>
      obtain ⟨hl, rfl⟩ := ite_some (show (if s.length = 1 then some (decide (s.cps.getD 0 0 ∈ t.cps.toList)) else none) = some z from h)
      exact .inr ⟨_, t, congrArg V.str (str_one hl), rfl, q⟩
    | _ => cases h
  | _ => cases h
def cIn : CmpOk .In .isin where
  r := rInD false
  ok := fun X _ => OpR.or op_in_seq op_in_sign
  rd := fun r px py h Q q => in_rd (neg := false) r px py h Q q
def cNotIn : CmpOk .NotIn .notin where
  r := rInD true
  ok := fun X _ => OpR.or op_notIn_seq op_notIn_sign
  rd := fun {K σ p st B M F env x y z v u H} r px py h Q q => by
    obtain ⟨w, hw, rfl⟩ := Option.map_eq_some_iff.mp (show (inD x y).map (!·) = some z from h)
    exact in_rd (neg := true) r px py hw Q q
end
end Ip

set_option Elab.async false
set_option linter.all false
set_option maxRecDepth 100000
set_option maxHeartbeats 4000000
namespace Ip
open PySem L2
section
variable {Γ : Gam} {e a b c : Expr} {es rest : List Expr} {ia ib ic i : IE} {ies : IEs} {pos : Pos}
/-! ### and, or, not, - -/
theorem ev_and {cl : Cl} {env : List Sl} {st : Pl} {d : D × Pl} (h : ev cl (.and ia ib) env st = some d) : (∃ st1, ev cl ia env st = some (.bool true, st1) ∧ ev cl ib env st1 = some d) ∨ (∃ st1, ev cl ia env st = some (.bool false, st1) ∧ d = (.bool false, st1)) := by
  unfold ev at h
  split at h
  · rename_i st1 e1
    exact .inl ⟨st1, e1, h⟩
  · rename_i st1 e1
    exact .inr ⟨st1, e1, (Option.some.inj h).symm⟩
  · cases h
theorem ev_or {cl : Cl} {env : List Sl} {st : Pl} {d : D × Pl} (h : ev cl (.or ia ib) env st = some d) : (∃ st1, ev cl ia env st = some (.bool false, st1) ∧ ev cl ib env st1 = some d) ∨ (∃ st1, ev cl ia env st = some (.bool true, st1) ∧ d = (.bool true, st1)) := by
  unfold ev at h
  split at h
  · rename_i st1 e1
    exact .inr ⟨st1, e1, (Option.some.inj h).symm⟩
  · rename_i st1 e1
    exact .inl ⟨st1, e1, h⟩
  · cases h
theorem ev_not {cl : Cl} {env : List Sl} {st : Pl} {d : D × Pl} (h : ev cl (.not ia) env st = some d) : ∃ b st1, ev cl ia env st = some (.bool b, st1) ∧ d = (.bool (!b), st1) := by
  unfold ev at h
  split at h
  · rename_i b st1 e1
    exact ⟨b, st1, e1, (Option.some.inj h).symm⟩
  · cases h
theorem st_se (h : SE Γ e i) (he : ∀ env whole, isTrue e env whole = (do let v ← whole; standAt e.pos; holding [v] (truthy v)) := by intro _ _; rfl) : ST Γ e i := fun X p o =>
  PT_weak (pt_val (h X p o) (fun w => he X.env w)) fun σ H Q q => by
    obtain ⟨st, B, M, F, env, b, st', r, he, k⟩ := q
    refine ⟨st, B, M, F, env, _, st', r, he, fun v B' H' x r' pv => ?_⟩
    cases pv
    exact ⟨b, rfl, k B' H' x r'⟩
theorem se_one {op : BoolOp} (h : SE Γ a i) : SE Γ (.BoolOp op [a] pos) i := fun X p o => pe_one (h X p o)
theorem se_and (ha : SE Γ a ia) (hb : SE Γ (.BoolOp .And (b :: rest) pos) ib) : SE Γ (.BoolOp .And (a :: b :: rest) pos) (.and ia ib) := fun X p o => PE_weak (pe_and (ha X p o) (hb X p o)) fun σ H Q q => by
  obtain ⟨st, B, M, F, env, d, st', r, he, k⟩ := q
  rcases ev_and he with ⟨st1, e1, e2⟩ | ⟨st1, e1, e2⟩
  · refine ⟨st, B, M, F, env, _, st1, r, e1, fun v B1 H1 x1 r1 p1 => ?_⟩
    cases p1
    refine ⟨true, rfl, iteT ⟨st1, B1, M, F, env, d, st', r1, e2, fun v B' H' x2 r2 p2 => k v B' H' (x1.trans x2) r2 p2⟩⟩
  · cases e2
    refine ⟨st, B, M, F, env, _, _, r, e1, fun v B1 H1 x1 r1 p1 => ?_⟩
    cases p1
    exact ⟨false, rfl, iteF (k _ B1 H1 x1 r1 (.bl _))⟩
theorem se_or (ha : SE Γ a ia) (hb : SE Γ (.BoolOp .Or (b :: rest) pos) ib) : SE Γ (.BoolOp .Or (a :: b :: rest) pos) (.or ia ib) := fun X p o => PE_weak (pe_or (ha X p o) (hb X p o)) fun σ H Q q => by
  obtain ⟨st, B, M, F, env, d, st', r, he, k⟩ := q
  rcases ev_or he with ⟨st1, e1, e2⟩ | ⟨st1, e1, e2⟩
  · refine ⟨st, B, M, F, env, _, st1, r, e1, fun v B1 H1 x1 r1 p1 => ?_⟩
    cases p1
    refine ⟨false, rfl, iteF ⟨st1, B1, M, F, env, d, st', r1, e2, fun v B' H' x2 r2 p2 => k v B' H' (x1.trans x2) r2 p2⟩⟩
  · cases e2
    refine ⟨st, B, M, F, env, _, _, r, e1, fun v B1 H1 x1 r1 p1 => ?_⟩
    cases p1
    exact ⟨true, rfl, iteT (k _ B1 H1 x1 r1 (.bl _))⟩
theorem se_not (ha : SE Γ a ia) : SE Γ (.UnaryOp .Not a pos) (.not ia) := fun X p o => PE_weak (pe_not (ha X p o)) fun σ H Q q => by
  obtain ⟨st, B, M, F, env, d, st', r, he, k⟩ := q
  obtain ⟨b, st1, e1, e2⟩ := ev_not he
  cases e2
  refine ⟨st, B, M, F, env, _, _, r, e1, fun v B1 H1 x1 r1 p1 => ?_⟩
  cases p1
  exact ⟨b, rfl, k _ B1 H1 x1 r1 (.bl _)⟩
theorem se_neg (ha : SE Γ a ia) : SE Γ (.UnaryOp .USub a pos) (.neg ia) := fun X p o => PE_weak (pe_un un_neg (ha X p o)) fun σ H Q q => by
  obtain ⟨st, B, M, F, env, d, st', r, he, k⟩ := q
  unfold ev at he
  split at he
  · rename_i n st1 e1
    cases he
    refine ⟨st, B, M, F, env, _, _, r, e1, fun v B1 H1 x1 r1 p1 => ?_⟩
    cases p1
    exact ⟨n, rfl, k _ B1 H1 x1 r1 (.int _)⟩
  · cases he
theorem sw_and1 (h : ST Γ a i) : SW Γ (.BoolOp .And [a] pos) i := fun X p o => pw_and1 (h X p o)
theorem sw_or1 (h : ST Γ a i) : SW Γ (.BoolOp .Or [a] pos) i := fun X p o => pw_or1 (h X p o)
theorem sw_and (ha : ST Γ a ia) (hb : SW Γ (.BoolOp .And (b :: rest) pos) ib) : SW Γ (.BoolOp .And (a :: b :: rest) pos) (.and ia ib) := fun X p o => PW_weak (pw_and (ha X p o) (hb X p o)) fun σ H Q q => by
  obtain ⟨st, B, M, F, env, d, st', r, he, k⟩ := q
  rcases ev_and he with ⟨st1, e1, e2⟩ | ⟨st1, e1, e2⟩
  · exact ⟨st, B, M, F, env, true, st1, r, e1, fun B1 H1 x1 r1 => iteT ⟨st1, B1, M, F, env, d, st', r1, e2, fun B' H' x2 r2 => k B' H' (x1.trans x2) r2⟩⟩
  · cases e2
    exact ⟨st, B, M, F, env, false, _, r, e1, fun B1 H1 x1 r1 => iteF (k B1 H1 x1 r1)⟩
theorem sw_or (ha : ST Γ a ia) (hb : SW Γ (.BoolOp .Or (b :: rest) pos) ib) : SW Γ (.BoolOp .Or (a :: b :: rest) pos) (.or ia ib) := fun X p o => PW_weak (pw_or (ha X p o) (hb X p o)) fun σ H Q q => by
  obtain ⟨st, B, M, F, env, d, st', r, he, k⟩ := q
  rcases ev_or he with ⟨st1, e1, e2⟩ | ⟨st1, e1, e2⟩
  · exact ⟨st, B, M, F, env, false, st1, r, e1, fun B1 H1 x1 r1 => iteF ⟨st1, B1, M, F, env, d, st', r1, e2, fun B' H' x2 r2 => k B' H' (x1.trans x2) r2⟩⟩
  · cases e2
    exact ⟨st, B, M, F, env, true, _, r, e1, fun B1 H1 x1 r1 => iteT (k B1 H1 x1 r1)⟩
theorem st_sw (h : SW Γ e i) : ST Γ e i := fun X p o => (h X p o).pt
theorem st_not (ha : ST Γ a ia) : ST Γ (.UnaryOp .Not a pos) (.not ia) := fun X p o => PT_weak (pt_not (ha X p o)) fun σ H Q q => by
  obtain ⟨st, B, M, F, env, d, st', r, he, k⟩ := q
  obtain ⟨b, st1, e1, e2⟩ := ev_not he
  cases e2
  exact ⟨st, B, M, F, env, b, _, r, e1, fun B1 H1 x1 r1 => k B1 H1 x1 r1⟩
theorem se_ifx (hc : ST Γ c ic) (ha : SE Γ a ia) (hb : SE Γ b ib) : SE Γ (.IfExp c a b pos) (.ifx ic ia ib) := fun X p o => PE_weak (pe_ifExp (hc X p o) (ha X p o) (hb X p o)) fun σ H Q q => by
  obtain ⟨st, B, M, F, env, d, st', r, he, k⟩ := q
  unfold ev at he
  split at he
  · rename_i st1 e1
    exact ⟨st, B, M, F, env, true, st1, r, e1, fun B1 H1 x1 r1 => iteT ⟨st1, B1, M, F, env, d, st', r1, he, fun v B' H' x2 r2 p2 => k v B' H' (x1.trans x2) r2 p2⟩⟩
  · rename_i st1 e1
    exact ⟨st, B, M, F, env, false, st1, r, e1, fun B1 H1 x1 r1 => iteF ⟨st1, B1, M, F, env, d, st', r1, he, fun v B' H' x2 r2 p2 => k v B' H' (x1.trans x2) r2 p2⟩⟩
  · cases he
/-! ### arguments -/
theorem sa_nil : SA Γ [] .nil := fun X p o => PA_weak pa_nil fun σ H Q q => by
  obtain ⟨st, B, M, F, env, ds, st', r, he, k⟩ := q
  unfold ea at he
  cases he
  exact k [] B H (Ex.refl B) r .nil
theorem sa_cons (he : SE Γ e i) (hr : SA Γ es ies) (hs : ∀ env, starEach (e :: es) env = (false, eval e env) :: starEach es env := by intro _; rfl) : SA Γ (e :: es) (.cons i ies) := fun X p o => PA_weak (pa_cons (he X p o) (hr X p o) (hs _)) fun σ H Q q => by
  obtain ⟨st, B, M, F, env, ds, st', r, he, k⟩ := q
  unfold ea at he
  cases e1 : ev Γ.cl i env st with
  | none =>
    rw [e1] at he
    cases he
  | some xs =>
    obtain ⟨x, st1⟩ := xs
    rw [e1] at he
    cases e2 : ea Γ.cl ies env st1 with
    | none =>
      simp only [e2] at he
      cases he
    | some ys =>
      obtain ⟨ys, st2⟩ := ys
      simp only [e2] at he
      cases he
      exact ⟨st, B, M, F, env, x, st1, r, e1, fun v B1 H1 x1 r1 p1 => ⟨st1, B1, M, F, env, ys, _, r1, e2, fun vs B2 H2 x2 r2 p2 => k _ B2 H2 (x1.trans x2) r2 (.cons (p1.mono x2) p2)⟩⟩
theorem ArA.mono {K : PySem.W.Frag} {p : Pa} {B B' : Hp} (x : Ex B B') : ∀ {vs : List V} {ds : List (Option D)}, ArA K p B vs ds → ArA K p B' vs ds
  | _, _, .nil => .nil
  | _, _, .cons h r => .cons (h.mono x) (ArA.mono x r)
  | _, _, .pool r => .pool (ArA.mono x r)
  | _, _, .cell h r => .cell h (ArA.mono x r)
theorem sg_nil : SG Γ [] .nil := fun X p o => PA_weak pa_nil fun σ H Q q => by
  obtain ⟨st, B, M, F, env, ds, st', r, he, k⟩ := q
  unfold ag at he
  cases he
  exact k [] B H (Ex.refl B) r .nil
theorem sg_cons (he : SE Γ e i) (hr : SG Γ es ies) (hs : ∀ env, starEach (e :: es) env = (false, eval e env) :: starEach es env := by intro _; rfl) : SG Γ (e :: es) (.cons i ies) := fun X p o => PA_weak (pa_cons (he X p o) (hr X p o) (hs _)) fun σ H Q q => by
  obtain ⟨st, B, M, F, env, ds, st', r, he, k⟩ := q
  unfold ag at he
  cases e1 : ev Γ.cl i env st with
  | none =>
    rw [e1] at he
    cases he
  | some xs =>
    obtain ⟨x, st1⟩ := xs
    rw [e1] at he
    cases e2 : ag Γ.cl ies env st1 with
    | none =>
      simp only [e2] at he
      cases he
    | some ys =>
      obtain ⟨ys, st2⟩ := ys
      simp only [e2] at he
      cases he
      exact ⟨st, B, M, F, env, x, st1, r, e1, fun v B1 H1 x1 r1 p1 => ⟨st1, B1, M, F, env, ys, _, r1, e2, fun vs B2 H2 x2 r2 p2 => k _ B2 H2 (x1.trans x2) r2 (.cons (p1.mono x2) p2)⟩⟩
theorem sg_pool (n : Nat) {x : Str} (hr : SG Γ es ies) (hN : Γ.N[n]? = some x := by rfl) (hv : Vis Γ.sc x := by first | exact Or.inl rfl | exact Or.inr (Or.inl rfl) | exact Or.inr (Or.inr rfl)) (hd : (x == ("__debug__" : Str)) = false := by decide) (hcd : (x == ("__classdict__" : Str)) = false := by decide)
    (hs : ∀ env, starEach (.Name x pos :: es) env = (false, eval (.Name x pos) env) :: starEach es env := by intro _; rfl) : SG Γ (.Name x pos :: es) (.pool n ies) := fun X p o =>
  PA_weak (pa_cons (pe_var (i := n) (by rw [o.N]; exact hN) (by rw [o.sc]; exact hv) hd hcd) (hr X p o) (hs _)) fun σ H Q q => by
  obtain ⟨st, B, M, F, env, ds, st', r, he, k⟩ := q
  unfold ag at he
  split at he
  · rename_i e1
    cases e2 : ag Γ.cl ies env st with
    | none =>
      simp only [e2] at he
      cases he
    | some ys =>
      obtain ⟨ys, st2⟩ := ys
      simp only [e2] at he
      cases he
      obtain ⟨ov, h1, h2⟩ := r.en.at_ n _ e1
      cases ov with
      | none => exact h2.elim
      | some v =>
        cases v with
        | ref q =>
          obtain rfl : q = p := h2
          exact ⟨_, h1, st, B, M, F, env, ys, _, r, e2, fun vs B2 H2 x2 r2 p2 => k _ B2 H2 x2 r2 (.pool p2)⟩
        | _ => exact h2.elim
  · cases he
/-! ### displays -/
theorem tup_se (h : SA Γ es ies) {x1} : SE Γ (.Tuple es x1 pos) (.tup ies) := fun X p o => PE_weak (pe_tup (h X p o)) fun σ H Q q => by
  obtain ⟨st, B, M, F, env, d, st', r, he, k⟩ := q
  unfold ev at he
  cases e1 : ea Γ.cl ies env st with
  | none =>
    rw [e1] at he
    cases he
  | some ys =>
    obtain ⟨ys, st1⟩ := ys
    rw [e1] at he
    obtain ⟨hl, he⟩ := ite_some he
    cases he
    refine ⟨st, B, M, F, env, ys, _, r, e1, fun vs B1 H1 x1 r1 p1 => ⟨most_line (by rw [p1.length]; exact hl), fun q hq => ?_⟩⟩
    exact k (.ref q) _ _ (x1.trans (Ex.new (r1.bs.b.free hq))) (r1.new hq) (.tup (Or.inl (Or.inl upd_same)) (p1.mono (Ex.new (r1.bs.b.free hq))))
theorem ev_lst {cl : Cl} {env : List Sl} {st : Pl} {d : D} {st' : Pl} (he : ev cl (.lst ies) env st = some (d, st')) : ∃ ys, ea cl ies env st = some (ys, st') ∧ ys.length ≤ most ∧ d = .list ys := by
  unfold ev at he
  cases e1 : ea cl ies env st with
  | none =>
    rw [e1] at he
    cases he
  | some ys =>
    obtain ⟨ys, st1⟩ := ys
    rw [e1] at he
    obtain ⟨hl, he⟩ := ite_some he
    cases he
    exact ⟨ys, rfl, hl, rfl⟩
theorem Rel.freshM {K : PySem.W.Frag} {p : Pa} {st : Pl} {B M F : Hp} {env : List Sl} {σ : L2.St} {H : Hp} (r : Rel K p st B M F env σ H) {q : Addr} (h : H q = none) : B q = none ∧ M q = none ∧ F q = none ∧ NotP p q := ⟨r.bs.b.free h, r.m.free h, r.bs.f.free h, r.bs.pn h, fun k hk => r.bs.ce.ne h hk rfl, fun t ht => r.bs.ce.tne ht (.inl h)⟩
/-- the heap grows by something that nobody speaks of -/
theorem Rel.more {K : PySem.W.Frag} {p : Pa} {st : Pl} {B M F : Hp} {env : List Sl} {σ : L2.St} {H : Hp} (r : Rel K p st B M F env σ H) {q : Addr} {o : HO} (h : H q = none) : Rel K p st B M F env σ (upd H q o) where
  bs := {
    b := r.bs.b.right (r.bs.b.free h)
    f := r.bs.f.right (r.bs.f.free h)
    d := r.bs.d
    pf := r.bs.pf
    pb := r.bs.pb
    pl := by
      obtain ⟨h1, h2⟩ := r.bs.pl
      exact ⟨by rw [upd_ne (fun e => r.bs.pn h e.symm)]; exact h1, h2⟩
    ce := r.bs.ce.up (fun k a hk => ⟨(r.bs.ce.b k a hk).1, (r.bs.ce.b k a hk).2.1⟩) (fun k a hk => by rw [upd_ne (r.bs.ce.ne h hk)]) r.bs.ce.tn fun z => tabs_new z h }
  m := r.m.right (r.m.free h)
  md := r.md
  mc := r.mc
  mt := r.mt
  en := r.en
theorem lst_sf (h : SA Γ es ies) : SF Γ (.List es pos) (.lst ies) := fun X p o => PE_weak (pe_lst (h X p o)) fun σ H Q q => by
  obtain ⟨st, B, M, F, env, ds, st', r, he, k⟩ := q
  obtain ⟨ys, e1, hl, e2⟩ := ev_lst he
  cases e2
  refine ⟨st, B, M, F, env, ds, _, r, e1, fun vs B1 H1 x1 r1 p1 => ⟨most_line (by rw [p1.length]; exact hl), fun q hq => ?_⟩⟩
  obtain ⟨h1, h2, h3, h4⟩ := r1.freshM hq
  exact k q vs B1 _ x1 h1 h2 h3 h4 upd_same p1 (r1.more hq)
theorem lst_se (h : SA Γ es ies) : SE Γ (.List es pos) (.lst ies) := (lst_sf h).se fun _ _ _ _ _ he => by
  obtain ⟨ys, _, _, e⟩ := ev_lst he
  exact ⟨ys, e⟩
/-! ### subscripts, slices -/
theorem RpA.atI {K : PySem.W.Frag} {B : Hp} {vs : List V} {ds : List D} {n : Int} {d : D} (r : RpA K B vs ds) (h : atI ds n = some d) : ∃ v, atI vs n = some v ∧ Rp K B v d := by
  unfold L2.atI at h ⊢
  obtain ⟨j, h1, h2⟩ := Option.bind_eq_some_iff.mp h
  rw [r.length, h1]
  exact r.get h2
theorem ix_se (ha : SE Γ a ia) (hb : SE Γ b ib) (hs : PlainIx b := by intro _ _; rfl) : SE Γ (.Subscript a b pos) (.ix ia ib) := fun X p o => PE_weak (pe_ix (IxR.or ix_list (IxR.or ix_tup ix_str)) (ha X p o) (hb X p o) hs) fun σ H Q q => by
  rw [o.K]
  refine tx_bin (f := ixD) (fun env st => rfl) ?_ q
  intro st B M F env x y z v u H r px py h Q k
  cases py with
  | int n =>
    cases px with
    | @lst a xs ds hx rx =>
      obtain ⟨v, h1, h2⟩ := rx.atI h
      exact .inl ⟨a, xs, n, v, rfl, rfl, Or.inl (Or.inl (r.bs.b _ _ hx)), h1, k v B H (Ex.refl B) r h2⟩
    | @tup a xs ds hx rx =>
      obtain ⟨v, h1, h2⟩ := rx.atI h
      exact .inr (.inl ⟨a, xs, n, v, rfl, rfl, sqt_mono r.bs.b hx, h1, k v B H (Ex.refl B) r h2⟩)
    | str s =>
      have h' : (if s.length ≤ most then (atI s.cps.toList n).map fun c => PyData.str ⟨#[c]⟩ else none) = some z := h
      by_cases hl : s.length ≤ most
      · rw [if_pos hl] at h'
        obtain ⟨c, h1, rfl⟩ := Option.map_eq_some_iff.mp h'
        exact .inr (.inr ⟨s, n, c, rfl, rfl, most_line hl, h1, k _ B H (Ex.refl B) r (.str _)⟩)
      · rw [if_neg hl] at h'
        cases h'
    | _ => cases h
  | _ => cases px <;> (cases h; done)
theorem so_non : SO Γ none .non := fun X p o => PO_weak po_none fun σ H Q q => by
  obtain ⟨st, B, M, F, env, l, st', r, he, k⟩ := q
  unfold eo at he
  cases he
  exact k B H (Ex.refl B) r
theorem so_some (h : SE Γ e i) : SO Γ (some e) (.some i) := fun X p o => PO_weak (po_some (h X p o)) fun σ H Q q => by
  obtain ⟨st, B, M, F, env, l, st', r, he, k⟩ := q
  unfold eo at he
  split at he
  · rename_i n st1 e1
    cases he
    refine ⟨st, B, M, F, env, _, _, r, e1, fun v B1 H1 x1 r1 p1 => ?_⟩
    cases p1
    exact ⟨n, rfl, k B1 H1 x1 r1⟩
  · cases he
theorem RpA.cut {K : PySem.W.Frag} {B : Hp} {vs : List V} {ds : List D} (r : RpA K B vs ds) (lo hi : Option Int) : RpA K B (cutV vs lo hi) (cutD ds lo hi) := by
  unfold cutV cutD
  rw [r.length]
  exact (r.drop _).take _
theorem cut_whole {vs : List V} {lo hi : Option Int} (h : HT.sIx vs.length 0 lo = 0 ∧ HT.sIx vs.length vs.length hi = vs.length) : cutV vs lo hi = vs := by
  unfold cutV
  rw [h.1, h.2]
  simp
theorem sl_se {lo hi : Option Expr} {l u : IO} {p2 : Pos} (ha : SE Γ a ia) (hl : SO Γ lo l) (hu : SO Γ hi u) : SE Γ (.Subscript a (.Slice lo hi none p2) pos) (.sl ia l u) := fun X p o => PE_weak (pe_slice (SlR.or sl_list (SlR.or sl_tupA sl_str)) (ha X p o) (hl X p o) (hu X p o)) fun σ H Q q => by
  rw [o.K]
  obtain ⟨st, B, M, F, env, d, st', r, he, k⟩ := q
  unfold ev at he
  cases e1 : ev Γ.cl ia env st with
  | none =>
    rw [e1] at he
    cases he
  | some xs =>
    obtain ⟨x, st1⟩ := xs
    rw [e1] at he
    cases e2 : eo Γ.cl l env st1 with
    | none =>
      simp only [e2] at he
      cases he
    | some ys =>
      obtain ⟨y, st2⟩ := ys
      simp only [e2] at he
      cases e3 : eo Γ.cl u env st2 with
      | none =>
        simp only [e3] at he
        cases he
      | some zs =>
        obtain ⟨z, st3⟩ := zs
        simp only [e3] at he
        obtain ⟨w, e4, e5⟩ := Option.map_eq_some_iff.mp he
        cases e5
        refine ⟨st, B, M, F, env, x, st1, r, e1, fun v B1 H1 x1 r1 p1 => ⟨st1, B1, M, F, env, y, st2, r1, e2, fun B2 H2 x2 r2 => ⟨st2, B2, M, F, env, z, _, r2, e3, fun B3 H3 x3 r3 => ?_⟩⟩⟩
        have pv := p1.mono (x2.trans x3)
        have xx := (x1.trans x2).trans x3
        cases pv with
        | @lst a xs ds hx rx =>
          cases e4
          refine .inl ⟨a, xs, rfl, Or.inl (Or.inl (r3.bs.b _ _ hx)), fun q hq => ?_⟩
          exact k (.ref q) _ _ (xx.trans (Ex.new (r3.bs.b.free hq))) (r3.new hq) (.lst upd_same ((rx.cut y z).mono (Ex.new (r3.bs.b.free hq))))
        | @tup a xs ds hx rx =>
          cases e4
          refine .inr (.inl ⟨a, xs, rfl, sqt_mono r3.bs.b hx, fun hw => ?_, fun _ q hq => ?_⟩)
          · have rc := rx.cut y z
            rw [cut_whole hw] at rc
            exact k (.ref a) B3 H3 xx r3 (.tup hx rc)
          · exact k (.ref q) _ _ (xx.trans (Ex.new (r3.bs.b.free hq))) (r3.new hq) (.tup (Or.inl (Or.inl upd_same)) ((rx.cut y z).mono (Ex.new (r3.bs.b.free hq))))
        | str s =>
          obtain ⟨hl, rfl⟩ := ite_some (show (if s.length ≤ most then some (PyData.str (cutS s y z)) else none) = some _ from e4)
          exact .inr (.inr ⟨s, rfl, most_line hl, k _ B3 H3 xx r3 (.str _)⟩)
        | _ => cases e4
end
end Ip

set_option Elab.async false
set_option linter.all false
set_option maxRecDepth 100000
set_option maxHeartbeats 4000000
/-! enumerate(x), zip(x, y): lists and tuples, in any mixture. -/
namespace Ip
open PySem PySem.Spec PyProof.Rows L2
open AutoSeq1 (wpAny_loadPart')
/-- a list (true) or a tuple (false) -/
def SqB (K : PySem.W.Frag) (b : Bool) (H : Hp) (a : Addr) (xs : List V) : Prop := (b = true ∧ SqL K H a xs) ∨ (b = false ∧ SqT K H a xs)
def isB (b : Bool) (h : Heap) (a : Addr) (its : Array Value) : Prop := (b = true ∧ h.IsList a its) ∨ (b = false ∧ h.IsTuple a its)
def itB (b : Bool) (h : Heap) (it a : Addr) (i : Nat) : Prop := (b = true ∧ h.IsListIter it a i) ∨ (b = false ∧ h.IsTupleIter it a i)
def obB (b : Bool) (a : Addr) : Obj := if b then ⟨.type "list_iterator", none, .fields #[.ref a, .int 0 0], #[]⟩ else ⟨.type "tuple_iterator", none, .fields #[.ref a, .int 0 0], #[]⟩
def knB (b : Bool) : String := if b then "list" else "tuple"
def knI (b : Bool) : String := if b then "list_iterator" else "tuple_iterator"
theorem isB.ob {b : Bool} {h : Heap} {a : Addr} {its : Array Value} (p : isB b h a its) : ∃ o, h.get? a = some o ∧ o.cls = .type (knB b) := by
  rcases p with ⟨rfl, o, h1, h2, _⟩ | ⟨rfl, o, h1, h2, _⟩
  · exact ⟨o, h1, h2⟩
  · exact ⟨o, h1, h2⟩
theorem itB.ob {b : Bool} {h : Heap} {it a : Addr} {i : Nat} (p : itB b h it a i) : ∃ o vs, h.get? it = some o ∧ o.cls = .type (knI b) ∧ o.data = .fields vs := by
  rcases p with ⟨rfl, o, h1, h2, h3⟩ | ⟨rfl, o, h1, h2, h3⟩
  · exact ⟨o, _, h1, h2, h3⟩
  · exact ⟨o, _, h1, h2, h3⟩
theorem itB.mv {b : Bool} {h h' : Heap} {it a : Addr} {i : Nat} (p : itB b h it a i) (k : ∀ o, h.get? it = some o → h'.get? it = some o) : itB b h' it a i := by
  rcases p with ⟨e, q⟩ | ⟨e, q⟩
  · exact .inl ⟨e, q.at k⟩
  · exact .inr ⟨e, q.at k⟩
theorem isB.mv {b : Bool} {h h' : Heap} {a : Addr} {its : Array Value} (p : isB b h a its) (k : ∀ o, h.get? a = some o → h'.get? a = some o) : isB b h' a its := by
  rcases p with ⟨e, q⟩ | ⟨e, q⟩
  · exact .inl ⟨e, q.at k⟩
  · exact .inr ⟨e, q.at k⟩
theorem apartC {h : Heap} {a c : Addr} {o u : Obj} {s t : String} (h1 : h.get? a = some o) (h2 : h.get? c = some u) (e1 : o.cls = .type s) (e2 : u.cls = .type t) (ne : s ≠ t) : a ≠ c := by
  intro e
  subst e
  rw [h1] at h2
  cases h2
  rw [e1] at e2
  injection e2 with e3
  exact ne e3
theorem apB {b c : Bool} {h : Heap} {it a l : Addr} {i : Nat} {its : Array Value} (p : isB c h a its) (q : itB b h it l i) : a ≠ it := by
  obtain ⟨o, h1, h2⟩ := p.ob
  obtain ⟨u, vs, h3, h4, _⟩ := q.ob
  exact apartC h1 h3 h2 h4 (by cases b <;> cases c <;> decide)
theorem drawsB {prog : Program} {w : World} {A : Around} (hh : A.handled = none) (b : Bool) (it l : Addr) (hne : l ≠ it) (its : Array Value) :
    Draws prog w A it [it, l] its.size (fun i v => its[i]? = some v) (fun i h => itB b h it l i ∧ isB b h l its) := by
  refine ⟨fun i h st => ?_, fun i h h' st k => ⟨st.1.mv (k it (by simp)), st.2.mv (k l (by simp))⟩, fun i s Q E hi st hQ => ?_, fun s Q E st hE => ?_⟩
  · obtain ⟨o, vs, e, _⟩ := st.1.ob
    exact ⟨o, e⟩
  · rcases st.1 with ⟨e1, q⟩ | ⟨e1, q⟩
    · rcases st.2 with ⟨e2, q2⟩ | ⟨e2, q2⟩
      · exact (Draws.list (prog := prog) (w := w) hh it l hne its).item i s Q E hi ⟨q, q2⟩ fun x h' tk hp st' sb => hQ x h' tk hp ⟨.inl ⟨e1, st'.1⟩, .inl ⟨e1, st'.2⟩⟩ sb
      · rw [e1] at e2
        cases e2
    · rcases st.2 with ⟨e2, q2⟩ | ⟨e2, q2⟩
      · rw [e1] at e2
        cases e2
      · exact (Draws.tuple (prog := prog) (w := w) hh it l hne its).item i s Q E hi ⟨q, q2⟩ fun x h' tk hp st' sb => hQ x h' tk hp ⟨.inr ⟨e1, st'.1⟩, .inr ⟨e1, st'.2⟩⟩ sb
  · rcases st.1 with ⟨e1, q⟩ | ⟨e1, q⟩
    · rcases st.2 with ⟨e2, q2⟩ | ⟨e2, q2⟩
      · exact (Draws.list (prog := prog) (w := w) hh it l hne its).done s Q E ⟨q, q2⟩ hE
      · rw [e1] at e2
        cases e2
    · rcases st.2 with ⟨e2, q2⟩ | ⟨e2, q2⟩
      · rw [e1] at e2
        cases e2
      · exact (Draws.tuple (prog := prog) (w := w) hh it l hne its).done s Q E ⟨q, q2⟩ hE
theorem beginsB (b : Bool) (l : Addr) (its : Array Value) : Begins (.ref l) (obB b l) fun h => isB b h l its := by
  refine ⟨fun prog w A E s Q h q => ?_, fun h h' p k => isB.mv p (k l), by cases b <;> rfl⟩
  rcases h with ⟨rfl, h⟩ | ⟨rfl, h⟩
  · exact (begins_list l its).iter prog w A E s Q h q
  · exact (begins_tuple l its).iter prog w A E s Q h q
theorem itB.new {b : Bool} {h : Heap} {it l : Addr} (e : h.get? it = some (obB b l)) : itB b h it l 0 := by
  cases b with
  | true => exact .inl ⟨rfl, _, e, rfl, rfl⟩
  | false => exact .inr ⟨rfl, _, e, rfl, rfl⟩
section
variable {X : Cx} {pins : List (Addr × Obj)} {σ : L2.St} {H : Hp} {s : Shared} {a : Addr} {xs ys : List V} {b : Bool}
theorem inv_sq (I : Inv X pins σ H s) (h : SqB X.K b H a xs) : ∃ its : List Value, Vals xs its ∧ isB b s.heap a its.toArray ∧ xs.length ≤ sizeLine := by
  rcases h with ⟨rfl, h⟩ | ⟨rfl, h⟩
  · obtain ⟨its, r, p, z⟩ := I.list h
    exact ⟨its, r, .inl ⟨rfl, p.isList⟩, z⟩
  · obtain ⟨its, r, p, z⟩ := I.tuple h
    exact ⟨its, r, .inr ⟨rfl, p⟩, z⟩
theorem inv_inj (I : Inv X pins σ H s) (h : SqB X.K b H a xs) (g : SqB X.K b H a ys) : xs = ys := by
  rcases h with ⟨rfl, h⟩ | ⟨rfl, h⟩
  · rcases g with ⟨_, g⟩ | ⟨z, _⟩
    · exact I.list_inj h g
    · cases z
  · rcases g with ⟨z, _⟩ | ⟨_, g⟩
    · cases z
    · exact I.tuple_inj h g
end
/-! ### enumerate -/
def Ien (K : PySem.W.Frag) (b : Bool) (a : Addr) : It :=
  ⟨fun i H => ∃ (xs : List V) (x : V), SqB K b H a xs ∧ xs[i]? = some x,
   fun i H v H' => ∃ T x, v = .ref T ∧ H T = none ∧ H' = upd H T (.tup [.int (i : Nat), x]) ∧ ∀ xs, SqB K b H a xs → xs[i]? = some x,
   fun i H => ∃ xs : List V, SqB K b H a xs ∧ xs.length = i⟩
def enSt (b : Bool) (a e it : Addr) (i : Nat) (h : Heap) : Prop := (∃ old, IsEnum h e it (0 + (i : Int)) old) ∧ itB b h it a i ∧ e ≠ it
theorem turn_en {P : Program} {w : World} {K : PySem.W.Frag} {elts : List Expr} {kk : Nat} {tpos : Pos} (b : Bool) (a e it : Addr) : Turn P w K (.Tuple elts kk tpos) (Ien K b a) [e, it] e (enSt b a e it) where
  mem := List.mem_cons_self
  obj := fun i h st c hc => by
    obtain ⟨⟨old, he⟩, q, _⟩ := st
    obtain ⟨o, vs, ho, _, hd⟩ := q.ob
    rcases List.mem_cons.mp hc with z | z
    · rw [z]
      exact ⟨_, he, fun v q => by cases q⟩
    · rw [List.mem_singleton.mp z]
      exact ⟨o, ho, fun v q => by rw [hd] at q; cases q⟩
  keep := fun i h h' st k => ⟨⟨_, k e List.mem_cons_self _ st.1.choose_spec⟩, st.2.1.mv (k it (by simp)), st.2.2⟩
  item := by
    intro X hP hw hK hc i pins s σ H E I hf st hg
    subst hP hw hK
    obtain ⟨⟨old, he⟩, hit, hne⟩ := st
    obtain ⟨xs, x, hq, hx⟩ := hg
    obtain ⟨its, rv, p, hz⟩ := inv_sq I hq
    obtain ⟨u, hu, ru⟩ := rv.get hx
    have hat := apB p hit
    have hea : e ≠ a := by
      obtain ⟨o, h1, h2⟩ := p.ob
      exact apartC he h1 rfl h2 (by cases b <;> decide)
    have hlt : i < its.toArray.size := by
      rw [List.size_toArray]
      exact (List.getElem?_eq_some_iff.mp hu).1
    have W := GoesN.enumFrom (elts := elts) (x1 := kk) (pos := tpos) 0 (drawsB (prog := X.prog) (w := X.w) (A := X.A.in1) (I.ok.hd hc) b it a hat its.toArray) e hne (by simp [hne, hea]) (by simp)
    refine W.goes i s _ E hlt ⟨⟨old, he⟩, hit, p⟩ fun v h' tk y st' hk htk => ?_
    obtain ⟨T, t, x2, ev, hT, hx2, hq2⟩ := y
    subst ev
    have ex : x2 = u := by
      have : its.toArray[i]? = some u := by simpa using hu
      rw [this] at hx2
      exact (Option.some.inj hx2).symm
    subst ex
    rw [Int.zero_add] at hq2
    have new : ObjOk X.prog X.w (upd H T (.tup [.int (i : Nat), x])) h' T (.tup [.int (i : Nat), x]) := ⟨by show 2 ≤ sizeLine; decide, [.int i t, x2], .cons ⟨_, rfl⟩ (.cons ru .nil), hq2⟩
    have I1 : Inv X pins σ (upd H T (.tup [.int (i : Nat), x])) { s with heap := h', toks := tk } := I.turnedNew (ch := [e, it]) hk hf hT new
    refine ⟨.ref T, _, I1, rfl, ⟨T, x, rfl, I.hok.fresh hT, rfl, fun zs hz => by rw [inv_inj I hz hq]; exact hx⟩, ⟨st'.1, st'.2.1, hne⟩, fun c hc => ?_⟩
    have hb : c < s.heap.objs.size := by
      rcases List.mem_cons.mp hc with z | z
      · rw [z]; exact Heap.lt_size he
      · rw [List.mem_singleton.mp z]
        obtain ⟨o, vs, ho, _⟩ := hit.ob
        exact Heap.lt_size ho
    rw [upd_ne (Nat.ne_of_lt (Nat.lt_of_lt_of_le hb hT))]
    exact (hf c hc).1
  done := by
    intro X hP hw hK hc i pins s σ H E I hf st hg
    subst hP hw hK
    obtain ⟨⟨old, he⟩, hit, hne⟩ := st
    obtain ⟨xs, hq, hx⟩ := hg
    obtain ⟨its, rv, p, hz⟩ := inv_sq I hq
    have hat := apB p hit
    have hea : e ≠ a := by
      obtain ⟨o, h1, h2⟩ := p.ob
      exact apartC he h1 rfl h2 (by cases b <;> decide)
    have W := GoesN.enumFrom (elts := elts) (x1 := kk) (pos := tpos) 0 (drawsB (prog := X.prog) (w := X.w) (A := X.A.in1) (I.ok.hd hc) b it a hat its.toArray) e hne (by simp [hne, hea]) (by simp)
    have hn : its.toArray.size = i := by rw [List.size_toArray, ← rv.length, hx]
    refine W.stops s (fun s1 => Inv X pins σ H s1) E (by rw [hn]; exact ⟨⟨old, he⟩, hit, p⟩) fun h' tk hk htk => ?_
    exact I.turnedL (ch := [e, it]) hk hf
  self := fun A i s Q E st h => by
    obtain ⟨⟨old, he⟩, _⟩ := st
    exact wpAny_pyIter_enum he h
theorem meets_enT (l : Addr) (its : Array Value) (n : Nat) (dct : Option Addr) (sl : Array (Option Value)) :
    Meets (Builtin.«enumerate.__new__» ⟨[.type "enumerate", .ref l], []⟩) (fun _ R s => s.heap.get? l = some { cls := .type "tuple", dict := dct, data := .seq its n, slots := sl } ∧
      R (.ok (.ret (.ref (s.heap.push (obB false l)).objs.size))) { s with heap := (s.heap.push (obB false l)).push { cls := .type "enumerate", data := .fields #[.none, .bool false, .ref s.heap.objs.size, rawInt 0, .none, .none] } }) :=
  .of_wp fun prog w A R s h => by
    obtain ⟨hp, g, d, tk, os⟩ := s
    obtain ⟨hl, h⟩ := h
    have hsub := sub_enumerate
    have hT : Heap.IsTuple (Shared.heap ⟨hp, g, d, tk, os⟩) l its := ⟨_, hl, rfl, n, rfl⟩
    wp_walk using wpAny_loadPart' hl
    refine wpAny_stack_any fun st => wpAny_pure ?_
    split
    · rename_i c _ _ _ _ _
      cases (c == Value.type "enumerate")
      · wp_walk using wpAny_loadPart' hl, wpAny_pyIter_tuple hT
        exact ⟨_, rfl, h⟩
      · wp_walk using wpAny_loadPart' hl, wpAny_pyIter_tuple hT
        exact ⟨_, rfl, h⟩
    · wp_walk using wpAny_loadPart' hl, wpAny_pyIter_tuple hT
      exact ⟨_, rfl, h⟩
theorem call_en {prog : Program} {w : World} {A : Around} {E : Value → Shared → Prop} {s : Shared} {b : Bool} {l : Addr} {its : Array Value} {Q : Value → Shared → Prop} (p : isB b s.heap l its)
    (h : ∀ h', IsEnum h' (s.heap.objs.size + 1) s.heap.objs.size 0 .none → itB b h' s.heap.objs.size l 0 → (∀ c o, s.heap.get? c = some o → h'.get? c = some o) → Q (.ref (s.heap.objs.size + 1)) { s with heap := h' }) :
    wpAny (model prog w) A (call (.type "enumerate") [.ref l]) Q E s := by
  rcases p with ⟨rfl, p⟩ | ⟨rfl, p⟩
  · exact call_enumerate_list p fun h' a1 a2 _ a3 => h h' a1 (.inl ⟨rfl, a2⟩) a3
  · obtain ⟨⟨c, dct, dt, sl⟩, hl, hc, n, hd⟩ := p
    have hc' : c = .type "tuple" := hc
    have hd' : dt = .seq its n := hd
    subst hc' hd'
    refine callType_new F.called_enumerate (by decide) (F.typeCall_enumerate_1 _) (F.newCall_enumerate_1 _) (fun obj => F.args_object_init_2 obj _) F.entry_enumerate_new (meets_enT l its n dct sl) ⟨hl, ?_⟩
    have hz : (s.heap.push (obB false l)).objs.size = s.heap.objs.size + 1 := Heap.size_push ..
    show _ ∧ _
    rw [hz]
    have he : IsEnum ((s.heap.push (obB false l)).push { cls := .type "enumerate", data := .fields #[.none, .bool false, .ref s.heap.objs.size, rawInt 0, .none, .none] }) (s.heap.objs.size + 1) s.heap.objs.size 0 .none := by
      have q := Heap.get?_push_size (s.heap.push (obB false l)) (o := { cls := .type "enumerate", data := .fields #[.none, .bool false, .ref s.heap.objs.size, rawInt 0, .none, .none] }) rfl
      rw [hz] at q
      exact q
    exact ⟨⟨_, he, rfl⟩, h _ he (itB.new (Heap.get?_push_of_some _ (Heap.get?_push_size _ rfl))) fun c o x => Heap.get?_push_of_some _ (Heap.get?_push_of_some _ x)⟩
def iEn (K : PySem.W.Frag) (ta : TA) : TI := fun σ H R => ta σ H fun vs H1 => ∃ b a xs, vs = [.ref a] ∧ SqB K b H1 a xs ∧ R (Ien K b a) H1
theorem pi_en {X : Cx} {e : Expr} {ta : TA} {p pos tpos : Pos} {elts : List Expr} {kk : Nat} (hg : Gl X "enumerate") (hm : X.mg "enumerate" = none) (ha : PA X [e] ta) (hs : starEach [e] X.env = [(false, eval e X.env)]) :
    PI X (.Tuple elts kk tpos) (.Call (.Name "enumerate" p) [e] [] pos) (iEn X.K ta) := by
  refine ⟨fun pins s σ H R I h => ?_⟩
  refine Call_ (ld_blt I hg hm boot_enumerate (PyProof.Rows.callWith_type1 (thn (ha.run pos pins s σ H _ I h) fun us s1 w1 => ?_) hs rfl))
  obtain ⟨vs, H1, I1, r1, b, a, xs, ex, hq, q⟩ := w1
  subst ex
  cases r1 with
  | cons r rr =>
    cases rr
    cases r
    obtain ⟨its, rv, p', hz⟩ := inv_sq I1 hq
    refine call_en p' fun h' he hit hk => wpAny_pyIter_enum he ?_
    have I2 : Inv X pins σ H1 { s1 with heap := h' } := I1.kept (t' := s1.toks) hk
    refine ⟨s1.heap.objs.size + 1, [s1.heap.objs.size + 1, s1.heap.objs.size], _, _, H1, rfl, I2, turn_en b a (s1.heap.objs.size + 1) s1.heap.objs.size, ⟨⟨.none, he⟩, hit, Nat.succ_ne_self _⟩, fun c hc => ?_, q⟩
    have hle : s1.heap.objs.size ≤ c := by
      rcases List.mem_cons.mp hc with z | z
      · rw [z]; exact Nat.le_add_right _ _
      · rw [List.mem_singleton.mp z]; exact Nat.le_refl _
    exact I1.fpOk hle (I1.hok.fresh hle)
/-! ### zip -/
def Izp (K : PySem.W.Frag) (b c : Bool) (a d : Addr) : It :=
  ⟨fun i H => ∃ (xs ys : List V) (x y : V), SqB K b H a xs ∧ SqB K c H d ys ∧ xs[i]? = some x ∧ ys[i]? = some y,
   fun i H v H' => ∃ T x y, v = .ref T ∧ H T = none ∧ H' = upd H T (.tup [x, y]) ∧ (∀ xs, SqB K b H a xs → xs[i]? = some x) ∧ (∀ ys, SqB K c H d ys → ys[i]? = some y),
   fun i H => ∃ xs ys : List V, SqB K b H a xs ∧ SqB K c H d ys ∧ min xs.length ys.length = i⟩
def zpSt (b c : Bool) (a d z TI TO i1 i2 : Addr) (i : Nat) (h : Heap) : Prop := IsZip h z TI TO .none ∧ IsTupOf2 h TI (.ref i1) (.ref i2) ∧ (∃ a1 a2, IsTupOf2 h TO a1 a2) ∧ itB b h i1 a i ∧ itB c h i2 d i
theorem zpSt.here {b c : Bool} {a d z TI TO i1 i2 : Addr} {i : Nat} {h : Heap} (st : zpSt b c a d z TI TO i1 i2 i h) : ∀ x ∈ [z, TI, TO, i1, i2], ∃ o, h.get? x = some o ∧ ∀ v, o.data ≠ .cell v := by
  obtain ⟨hz, hTI, ⟨a1, a2, hTO⟩, h1, h2⟩ := st
  intro x hx
  simp only [List.mem_cons, List.not_mem_nil, or_false] at hx
  rcases hx with rfl | rfl | rfl | rfl | rfl
  · exact ⟨_, hz, fun v q => by cases q⟩
  · exact ⟨_, hTI, fun v q => by cases q⟩
  · exact ⟨_, hTO, fun v q => by cases q⟩
  · obtain ⟨o, vs, e, _, e2⟩ := h1.ob
    exact ⟨o, e, fun v q => by rw [e2] at q; cases q⟩
  · obtain ⟨o, vs, e, _, e2⟩ := h2.ob
    exact ⟨o, e, fun v q => by rw [e2] at q; cases q⟩
theorem turn_zp {P : Program} {w : World} {K : PySem.W.Frag} {elts : List Expr} {kk : Nat} {tpos : Pos} {b c : Bool} {a d z TI TO i1 i2 : Addr} (S : ZipSep2 z TI TO i1 i2 [i1, a] [i2, d]) :
    Turn P w K (.Tuple elts kk tpos) (Izp K b c a d) [z, TI, TO, i1, i2] z (zpSt b c a d z TI TO i1 i2) where
  mem := List.mem_cons_self
  obj := fun i h st => st.here
  keep := fun i h h' st k => ⟨k z (by simp) _ st.1, k TI (by simp) _ st.2.1, ⟨_, _, k TO (by simp) _ st.2.2.1.choose_spec.choose_spec⟩, st.2.2.2.1.mv (k i1 (by simp)), st.2.2.2.2.mv (k i2 (by simp))⟩
  item := by
    intro X hP hw hK hc i pins s σ H E I hf st hg
    subst hP hw hK
    obtain ⟨xs, ys, x, y, hqx, hqy, hx, hy⟩ := hg
    obtain ⟨its, rv, p, _⟩ := inv_sq I hqx
    obtain ⟨it2, rv2, p2, _⟩ := inv_sq I hqy
    obtain ⟨u, hu, ru⟩ := rv.get hx
    obtain ⟨u2, hu2, ru2⟩ := rv2.get hy
    have W := GoesN.zip2 (elts := elts) (x1 := kk) (pos := tpos) S (drawsB (prog := X.prog) (w := X.w) (A := X.A.in1) (I.ok.hd hc) b i1 a (apB p st.2.2.2.1) its.toArray) (drawsB (prog := X.prog) (w := X.w) (A := X.A.in1) (I.ok.hd hc) c i2 d (apB p2 st.2.2.2.2) it2.toArray)
    have hlt : i < min its.toArray.size it2.toArray.size := by
      have l1 := (List.getElem?_eq_some_iff.mp hu).1
      have l2 := (List.getElem?_eq_some_iff.mp hu2).1
      rw [List.size_toArray, List.size_toArray]
      omega
    have hh := st.here
    refine W.goes i s _ E hlt ⟨st.1, st.2.1, st.2.2.1, ⟨st.2.2.2.1, p⟩, ⟨st.2.2.2.2, p2⟩⟩ fun v h' tk yy st' hk htk => ?_
    obtain ⟨T, x2, y2, ev, hT, hx2, hy2, hq2⟩ := yy
    subst ev
    have ex : x2 = u := by
      have q : its.toArray[i]? = some u := by simpa using hu
      rw [q] at hx2
      exact (Option.some.inj hx2).symm
    have ey : y2 = u2 := by
      have q : it2.toArray[i]? = some u2 := by simpa using hu2
      rw [q] at hy2
      exact (Option.some.inj hy2).symm
    subst ex ey
    have new : ObjOk X.prog X.w (upd H T (.tup [x, y])) h' T (.tup [x, y]) := ⟨by show 2 ≤ sizeLine; decide, [x2, y2], .cons ru (.cons ru2 .nil), hq2⟩
    have hf2 : ∀ q ∈ [z, TO, i1, i2], FpOk X pins H q := fun q hq => hf q (by
      simp only [List.mem_cons, List.not_mem_nil, or_false] at hq ⊢
      rcases hq with h | h | h | h <;> simp [h])
    have I1 : Inv X pins σ (upd H T (.tup [x, y])) { s with heap := h', toks := tk } := I.turnedNew (ch := [z, TO, i1, i2]) hk hf2 hT new
    refine ⟨.ref T, _, I1, rfl, ⟨T, x, y, rfl, I.hok.fresh hT, rfl, fun zs hz => by rw [inv_inj I hz hqx]; exact hx, fun zs hz => by rw [inv_inj I hz hqy]; exact hy⟩, ⟨st'.1, st'.2.1, st'.2.2.1, st'.2.2.2.1.1, st'.2.2.2.2.1⟩, fun q hq => ?_⟩
    obtain ⟨o, ho, _⟩ := hh q hq
    rw [upd_ne (Nat.ne_of_lt (Nat.lt_of_lt_of_le (Heap.lt_size ho) hT))]
    exact (hf q hq).1
  done := by
    intro X hP hw hK hc i pins s σ H E I hf st hg
    subst hP hw hK
    obtain ⟨xs, ys, hqx, hqy, hn⟩ := hg
    obtain ⟨its, rv, p, _⟩ := inv_sq I hqx
    obtain ⟨it2, rv2, p2, _⟩ := inv_sq I hqy
    have W := GoesN.zip2 (elts := elts) (x1 := kk) (pos := tpos) S (drawsB (prog := X.prog) (w := X.w) (A := X.A.in1) (I.ok.hd hc) b i1 a (apB p st.2.2.2.1) its.toArray) (drawsB (prog := X.prog) (w := X.w) (A := X.A.in1) (I.ok.hd hc) c i2 d (apB p2 st.2.2.2.2) it2.toArray)
    have en : min its.toArray.size it2.toArray.size = i := by rw [List.size_toArray, List.size_toArray, ← rv.length, ← rv2.length]; exact hn
    refine W.stops s (fun s1 => Inv X pins σ H s1) E (by rw [en]; exact ⟨st.1, st.2.1, st.2.2.1, ⟨st.2.2.2.1, p⟩, ⟨st.2.2.2.2, p2⟩⟩) fun h' tk hk htk => ?_
    exact I.turnedL (ch := [z, TO, i1, i2]) hk fun q hq => hf q (by
      simp only [List.mem_cons, List.not_mem_nil, or_false] at hq ⊢
      rcases hq with h | h | h | h <;> simp [h])
  self := fun A i s Q E st h => wpAny_pyIter_zip st.1 h
def iZp (K : PySem.W.Frag) (ta : TA) : TI := fun σ H R => ta σ H fun vs H1 => ∃ b c a d xs ys, vs = [.ref a, .ref d] ∧ SqB K b H1 a xs ∧ SqB K c H1 d ys ∧ R (Izp K b c a d) H1
theorem pi_zp {X : Cx} {e f : Expr} {ta : TA} {p pos tpos : Pos} {elts : List Expr} {kk : Nat} (hg : Gl X "zip") (hm : X.mg "zip" = none) (ha : PA X [e, f] ta)
    (hs : starEach [e, f] X.env = (false, eval e X.env) :: starEach [f] X.env) (hpl : (backTo pos (starEach [f] X.env)).any (·.1) = false) : PI X (.Tuple elts kk tpos) (.Call (.Name "zip" p) [e, f] [] pos) (iZp X.K ta) := by
  refine ⟨fun pins s σ H R I h => ?_⟩
  refine Call_ (ld_blt I hg hm PyProof.Rows.boot_zip (PyProof.Rows.callWith_type1 (thn (ha.run pos pins s σ H _ I h) fun us s1 w1 => ?_) hs hpl))
  obtain ⟨vs, H1, I1, r1, b, c, a, d, xs, ys, ex, hqx, hqy, q⟩ := w1
  subst ex
  cases r1 with
  | cons r rr =>
    cases rr with
    | cons r' rr =>
      cases rr
      cases r
      cases r'
      obtain ⟨its, rv, p1, _⟩ := inv_sq I1 hqx
      obtain ⟨it2, rv2, p2, _⟩ := inv_sq I1 hqy
      have la : a < s1.heap.objs.size := by
        obtain ⟨o, e, _⟩ := p1.ob
        exact Heap.lt_size e
      have ld : d < s1.heap.objs.size := by
        obtain ⟨o, e, _⟩ := p2.ob
        exact Heap.lt_size e
      refine zip_begins2 (beginsB b a its.toArray) (beginsB c d it2.toArray) p1 p2 fun h' hz hTI hTO h1 h2 hsz hk => wpAny_pyIter_zip hz ?_
      have I2 : Inv X pins σ H1 { s1 with heap := h' } := I1.kept (t' := s1.toks) hk
      have S := zip_sep2 (N := s1.heap.objs.size) (fp1 := [a]) (fp2 := [d]) (fun q hq => by rw [List.mem_singleton.mp hq]; exact la) (fun q hq => by rw [List.mem_singleton.mp hq]; exact ld)
      refine ⟨_, [s1.heap.objs.size + 4, s1.heap.objs.size + 2, s1.heap.objs.size + 3, s1.heap.objs.size, s1.heap.objs.size + 1], _, _, H1, rfl, I2, turn_zp S, ⟨hz, hTI, ⟨_, _, hTO⟩, itB.new h1, itB.new h2⟩, fun c hc => ?_, q⟩
      have hle : s1.heap.objs.size ≤ c := by
        simp only [List.mem_cons, List.not_mem_nil, or_false] at hc
        rcases hc with h | h | h | h | h <;> rw [h] <;> first | exact Nat.le_add_right _ _ | exact Nat.le_refl _
      exact I1.fpOk hle (I1.hok.fresh hle)
end Ip

set_option Elab.async false
set_option linter.all false
set_option maxRecDepth 100000
set_option maxHeartbeats 4000000
namespace Ip
open PySem L2
section
variable {Γ : Gam} {e a b c : Expr} {es rest : List Expr} {ia ib ic i : IE} {ies : IEs} {pos p0 : Pos} {x : Str}
/-! ### calls of own defs -/
theorem tx_call {K : PySem.W.Frag} {cl : Cl} {σ : L2.St} {H : Hp} {Q : VK} (ht : p.tb = tabK K) (q : Tx K cl p (.call x ies) σ H Q) : tCall (spF K cl x) [] E0 (Tg K cl p ies) σ H Q := by
  obtain ⟨st, B, M, F, env, d, st', r, he, k⟩ := q
  unfold ev at he
  cases e1 : ag cl ies env st with
  | none =>
    rw [e1] at he
    cases he
  | some ys =>
    obtain ⟨ys, st1⟩ := ys
    rw [e1] at he
    refine ⟨st, B, M, F, env, ys, st1, r, e1, fun vs B1 H1 x1 r1 p1 => ?_⟩
    show spF K cl x (vs ++ []) H1 Q E0
    rw [List.append_nil]
    exact ⟨p.o, st1, B1, uni M F, ys, d, st', ⟨rfl, rfl, rfl, ht⟩, r1.call.o, p1.o, he, fun v B' H' x2 w pv => k v B' H' (x1.trans x2) (r1.back x2 w.u) pv⟩
theorem call_se (h : SG Γ (e :: es) ies) (hh : Γ.hot = false := by rfl) (hf : Γ.fs.contains x = true := by rfl) (hg : GlS Γ.sc x := by rfl) (hdb : (x == ("__debug__" : Str)) = false := by decide)
    (he : ∀ env, starEach (e :: es) env = (false, eval e env) :: starEach es env := by intro _; rfl) (hpl : ∀ env, (backTo pos (starEach es env)).any (·.1) = false := by intro _; rfl) :
    SE Γ (.Call (.Name x p0) (e :: es) [] pos) (.call x ies) := fun X p o => by
  obtain ⟨fa, fd, ps, k, F, hm, hk, hb, hr⟩ := o.fn hh x (List.contains_iff_mem.mp hf)
  exact PE_weak (pe_call F hr (o.gl hg) hm hk hb .nil passN (h X p o) hdb (he _) (hpl _)) fun σ H Q q => tx_call o.tb q
theorem call0_se (hh : Γ.hot = false := by rfl) (hf : Γ.fs.contains x = true := by rfl) (hg : GlS Γ.sc x := by rfl) (hdb : (x == ("__debug__" : Str)) = false := by decide) : SE Γ (.Call (.Name x p0) [] [] pos) (.call x .nil) := fun X p o => by
  obtain ⟨fa, fd, ps, k, F, hm, hk, hb, hr⟩ := o.fn hh x (List.contains_iff_mem.mp hf)
  refine PE_weak (pe_call0 F hr (o.gl hg) hm hk hb .nil passN hdb) fun σ H Q q => ?_
  obtain ⟨st, B, M, F, env, ds, st', r, he, k⟩ := tx_call o.tb q
  unfold ag at he
  cases he
  exact k [] B H (Ex.refl B) r .nil
/-- a call without arguments within an except suite -/
theorem callH0_se (hh : Γ.hot = true := by rfl) (hf : Γ.hs.contains x = true := by rfl) (hg : GlS Γ.sc x := by rfl) (hdb : (x == ("__debug__" : Str)) = false := by decide) : SE Γ (.Call (.Name x p0) [] [] pos) (.call (hotN x) .nil) := fun X p o => ⟨fun pins s σ H Q I q => by
  obtain ⟨fa, fd, ps, k, F, hm, hk, hb, hr⟩ := o.fnh x (List.contains_iff_mem.mp hf)
  refine wpAny_Call_Name_kw (ld_glob I (o.gl hg) hm ?_ hdb)
  refine PySem.W.callWith_K0 (first := []) I.kIn hk ?_
  refine L2H.run_fnH (E := fun _ => E0) F hr (o.hotc hh) hb (fun pins H s e s' I c => passN pins σ H s e s' I c) I .nil ?_
  obtain ⟨st, B, M, F', env, ds, st', r, he, kk⟩ := tx_call o.tb q
  unfold ag at he
  cases he
  have z : spF Γ.K Γ.cl (hotN x) ([] ++ []) H Q E0 := kk [] B H (Ex.refl B) r .nil
  exact z⟩
/-- a call within an except suite -/
theorem callH_se (h : SG Γ (e :: es) ies) (hh : Γ.hot = true := by rfl) (hf : Γ.hs.contains x = true := by rfl) (hg : GlS Γ.sc x := by rfl) (hdb : (x == ("__debug__" : Str)) = false := by decide)
    (he : ∀ env, starEach (e :: es) env = (false, eval e env) :: starEach es env := by intro _; rfl) (hpl : ∀ env, (backTo pos (starEach es env)).any (·.1) = false := by intro _; rfl) :
    SE Γ (.Call (.Name x p0) (e :: es) [] pos) (.call (hotN x) ies) := fun X p o => by
  obtain ⟨fa, fd, ps, k, F, hm, hk, hb, hr⟩ := o.fnh x (List.contains_iff_mem.mp hf)
  refine PE_weak (L2H.pe_callH F hr (o.hotc hh) (o.gl hg) hm hk hb (E := fun _ => E0) (fun σ pins H s e s' I c => passN pins σ H s e s' I c) (h X p o) hdb (he _) (hpl _)) fun σ H Q q => ?_
  obtain ⟨st, B, M, F', env, ys, st1, r, e1, kk⟩ := tx_call o.tb q
  refine ⟨st, B, M, F', env, ys, st1, r, e1, fun vs B' H' x1 r1 p1 => ?_⟩
  have z : spF Γ.K Γ.cl (hotN x) (vs ++ []) H' Q E0 := kk vs B' H' x1 r1 p1
  rw [List.append_nil] at z
  exact z
theorem CallR_or {X : Cx} {f : Value} {r1 r2 : List V → Hp → VK → Prop} (h1 : CallR X f r1) (h2 : CallR X f r2) : CallR X f (fun vs H Q => r1 vs H Q ∨ r2 vs H Q) := fun pins s σ H vs us Q I r q => by
  rcases q with q | q
  · exact h1 pins s σ H vs us Q I r q
  · exact h2 pins s σ H vs us Q I r q
/-! ### built-ins of one argument -/
theorem tx_bi {K : PySem.W.Frag} {cl : Cl} {f : Bi} {r : List V → Hp → VK → Prop} {σ : L2.St} {H : Hp} {Q : VK}
    (hr : ∀ {st B M F env v d z H}, Rel K p st B M F env σ H → Rp K B v d → biD f [d] = some z → ∀ Q : VK, (∀ w B' H', Ex B B' → Rel K p st B' M F env σ H' → Rp K B' w z → Q w H') → r [v] H Q)
    (q : Tx K cl p (.bi f (.cons i .nil)) σ H Q) : tCB r (Ta K cl p (.cons i .nil)) σ H Q := by
  obtain ⟨st, B, M, F, env, d, st', rl, he, k⟩ := q
  unfold ev at he
  cases e1 : ea cl (.cons i .nil) env st with
  | none =>
    rw [e1] at he
    cases he
  | some ys =>
    obtain ⟨ys, st1⟩ := ys
    rw [e1] at he
    obtain ⟨z, e2, e3⟩ := Option.map_eq_some_iff.mp he
    cases e3
    refine ⟨st, B, M, F, env, ys, _, rl, e1, fun vs B1 H1 x1 r1 p1 => ?_⟩
    have hl : ys.length = 1 := by
      unfold ea at e1
      split at e1
      · unfold ea at e1
        cases e1
        rfl
      · cases e1
    match ys, hl, p1, e2 with
    | [y], _, .cons py .nil, e2 => exact hr r1 py e2 Q fun w B' H' x2 r2 p2 => k w B' H' (x1.trans x2) r2 p2
theorem len_se (h : SE Γ e i) (hb : Γ.bs.contains "len" = true := by rfl) (hg : GlS Γ.sc "len" := by rfl) (hs : ∀ env, starEach [e] env = (false, eval e env) :: starEach [] env := by intro _; rfl) :
    SE Γ (.Call (.Name "len" p0) [e] [] pos) (.bi .len (.cons i .nil)) := fun X p o =>
  PE_weak (pe_callB call_len (o.gl hg) (o.bl _ (List.contains_iff_mem.mp hb)) PySem.boot_len ((sa_cons h sa_nil hs) X p o) (by decide) (by decide) (hs _) rfl) fun σ H Q q => by
    refine tx_bi ?_ q
    intro st B M F env v d z H r pv e2 Q k
    rw [o.K]
    cases pv with
    | @lst a xs ds hx rx =>
      cases e2
      exact ⟨_, xs.length, rfl, .inl ⟨xs, Or.inl (Or.inl (r.bs.b _ _ hx)), rfl⟩, k _ B H (Ex.refl B) r (by rw [rx.length]; exact .int _)⟩
    | @tup a xs ds hx rx =>
      cases e2
      exact ⟨_, xs.length, rfl, .inr ⟨xs, sqt_mono r.bs.b hx, rfl⟩, k _ B H (Ex.refl B) r (by rw [rx.length]; exact .int _)⟩
    | str s =>
      obtain ⟨hl, rfl⟩ := ite_some (show (if s.length ≤ most then some (PyData.int s.length) else none) = some z from e2)
      exact ⟨_, s.length, rfl, ⟨most_line hl, rfl⟩, k _ B H (Ex.refl B) r (.int _)⟩
    | _ => cases e2
theorem int_se (h : SE Γ e i) (hb : Γ.bs.contains "int" = true := by rfl) (hg : GlS Γ.sc "int" := by rfl) (hs : ∀ env, starEach [e] env = (false, eval e env) :: starEach [] env := by intro _; rfl) :
    SE Γ (.Call (.Name "int" p0) [e] [] pos) (.bi .int (.cons i .nil)) := fun X p o =>
  PE_weak (pe_callTy (CallR_or call_int1 call_int_str) (o.gl hg) (o.bl _ (List.contains_iff_mem.mp hb)) (by decide +kernel) ((sa_cons h sa_nil hs) X p o) (by decide) (by decide) (hs _) rfl) fun σ H Q q => by
    refine tx_bi ?_ q
    intro st B M F env v d z H r pv e2 Q k
    cases pv with
    | int n =>
      cases e2
      exact .inl (.inl ⟨n, rfl, k _ B H (Ex.refl B) r (.int _)⟩)
    | bl w =>
      cases e2
      exact .inl (.inr ⟨w, rfl, k _ B H (Ex.refl B) r (.int _)⟩)
    | str z =>
      have e3 : (match PySem.intText? z with
        | some n => if z.length ≤ 640 then some (PyData.int n) else none
        | none => none) = some _ := e2
      split at e3
      · rename_i n hn
        obtain ⟨hl, rfl⟩ := ite_some e3
        exact .inr ⟨z, n, rfl, hn, hl, k _ B H (Ex.refl B) r (.int _)⟩
      · cases e3
    | _ => cases e2
theorem str_se (h : SE Γ e i) (hb : Γ.bs.contains "str" = true := by rfl) (hg : GlS Γ.sc "str" := by rfl) (hs : ∀ env, starEach [e] env = (false, eval e env) :: starEach [] env := by intro _; rfl) :
    SE Γ (.Call (.Name "str" p0) [e] [] pos) (.bi .str (.cons i .nil)) := fun X p o =>
  PE_weak (pe_callTy call_str_int (o.gl hg) (o.bl _ (List.contains_iff_mem.mp hb)) (by decide +kernel) ((sa_cons h sa_nil hs) X p o) (by decide) (by decide) (hs _) rfl) fun σ H Q q => by
    refine tx_bi ?_ q
    intro st B M F env v d z H r pv e2 Q k
    cases pv with
    | int n =>
      obtain ⟨hl, rfl⟩ := ite_some (show (if n.natAbs.log2 < 1920 then some (PyData.str (toString n)) else none) = some z from e2)
      exact ⟨n, rfl, hl, k _ B H (Ex.refl B) r (.str _)⟩
    | _ => cases e2
theorem tuple_se (h : SE Γ e i) (hb : Γ.bs.contains "tuple" = true := by rfl) (hg : GlS Γ.sc "tuple" := by rfl) (hs : ∀ env, starEach [e] env = (false, eval e env) :: starEach [] env := by intro _; rfl) :
    SE Γ (.Call (.Name "tuple" p0) [e] [] pos) (.bi .tuple (.cons i .nil)) := fun X p o =>
  PE_weak (pe_callTy call_tuple_of (o.gl hg) (o.bl _ (List.contains_iff_mem.mp hb)) (by decide +kernel) ((sa_cons h sa_nil hs) X p o) (by decide) (by decide) (hs _) rfl) fun σ H Q q => by
    refine tx_bi ?_ q
    intro st B M F env v d z H r pv e2 Q k
    rw [o.K]
    cases pv with
    | @lst a xs ds hx rx =>
      cases e2
      exact ⟨a, xs, rfl, .inl ⟨Or.inl (Or.inl (r.bs.b _ _ hx)), fun l hl => k (.ref l) _ _ (Ex.new (r.bs.b.free hl)) (r.new hl) (.tup (Or.inl (Or.inl upd_same)) (rx.mono (Ex.new (r.bs.b.free hl))))⟩⟩
    | @tup a xs ds hx rx =>
      cases e2
      exact ⟨a, xs, rfl, .inr ⟨sqt_mono r.bs.b hx, k _ B H (Ex.refl B) r (.tup hx rx)⟩⟩
    | _ => cases e2
theorem len_rd {K : PySem.W.Frag} {p : Pa} {st : Pl} {B M F : Hp} {env : List Sl} {σ : L2.St} {H : Hp} {v : V} {d z : D} (r : Rel K p st B M F env σ H) (pv : Rp K B v d) (e2 : biD .len [d] = some z) : ∃ n : Nat, LenV K v H n ∧ z = .int n := by
  cases pv with
  | @lst a xs ds hx rx =>
    cases e2
    exact ⟨xs.length, .inl ⟨xs, Or.inl (Or.inl (r.bs.b _ _ hx)), rfl⟩, by rw [rx.length]⟩
  | @tup a xs ds hx rx =>
    cases e2
    exact ⟨xs.length, .inr ⟨xs, sqt_mono r.bs.b hx, rfl⟩, by rw [rx.length]⟩
  | str s =>
    obtain ⟨hl, rfl⟩ := ite_some (show (if s.length ≤ most then some (PyData.int s.length) else none) = some z from e2)
    exact ⟨s.length, ⟨most_line hl, rfl⟩, rfl⟩
  | _ => cases e2
theorem olen_se (n : Nat) {y : Str} {p1 : Pos} (hN : Γ.N[n]? = some y := by rfl) (hv : Vis Γ.sc y := by first | exact Or.inl rfl | exact Or.inr (Or.inl rfl) | exact Or.inr (Or.inr rfl)) (hd : (y == ("__debug__" : Str)) = false := by decide) (hcd : (y == ("__classdict__" : Str)) = false := by decide)
    (hb : Γ.bs.contains "len" = true := by rfl) (hg : GlS Γ.sc "len" := by rfl) (hs : ∀ env, starEach [.Name y p0] env = (false, eval (.Name y p0) env) :: starEach [] env := by intro _; rfl) :
    SE Γ (.Call (.Name "len" p1) [.Name y p0] [] pos) (.olen n) := fun X p o =>
  PE_weak (pe_callB call_len (o.gl hg) (o.bl _ (List.contains_iff_mem.mp hb)) PySem.boot_len (pa_cons (pe_var (i := n) (by rw [o.N]; exact hN) (by rw [o.sc]; exact hv) hd hcd) pa_nil (hs _)) (by decide) (by decide) (hs _) rfl) fun σ H Q q => by
    obtain ⟨st, B, M, F, env, d, st', r, he, k⟩ := q
    unfold ev at he
    split at he
    · rename_i ds e1
      cases he
      obtain ⟨ov, h1, h2⟩ := r.en.at_ n _ e1
      cases ov with
      | none => exact h2.elim
      | some v =>
        cases v with
        | ref a =>
          obtain ⟨xs, h3, h4⟩ := h2
          exact ⟨_, h1, _, xs.length, rfl, .inl ⟨xs, Or.inl (Or.inl (r.m _ _ h3)), rfl⟩, k _ B H (Ex.refl B) r (by rw [h4.length]; exact .int _)⟩
        | _ => exact h2.elim
    · rename_i d1 e1
      obtain ⟨z, e2, e3⟩ := Option.map_eq_some_iff.mp he
      cases e3
      obtain ⟨ov, h1, h2⟩ := r.en.at_ n _ e1
      cases ov with
      | none => exact h2.elim
      | some v =>
        obtain ⟨m, h3, rfl⟩ := len_rd r h2 e2
        rw [o.K]
        exact ⟨v, h1, v, m, rfl, h3, k _ B H (Ex.refl B) r (.int _)⟩
    · cases he
end
/-! ### what is walked -/
theorem PI_or {X : Cx} {tg iter : Expr} {w1 w2 : TI} (h1 : PI X tg iter w1) (h2 : PI X tg iter w2) : PI X tg iter (fun σ H R => w1 σ H R ∨ w2 σ H R) := ⟨fun pins s σ H R I q => by
  rcases q with q | q
  · exact h1.run pins s σ H R I q
  · exact h2.run pins s σ H R I q⟩
def Ti (K : PySem.W.Frag) (cl : Cl) (p : Pa) : IT → TI
  | .seq e => fun σ H R => (iList K (Tx K cl p e) σ H R ∨ iTup K (Tx K cl p e) σ H R) ∨ iStr (Tx K cl p e) σ H R
  | .rng1 e => iRng1 (Ta K cl p (.cons e .nil))
  | .rng2 a b => iRng2 (Ta K cl p (.cons a (.cons b .nil)))
  | .rng3 a b => iRng3 (Ta K cl p (.cons a (.cons b (.cons (.cst (.int (-1))) .nil))))
  | .enm e => iEn K (Ta K cl p (.cons e .nil))
  | .zp a b => iZp K (Ta K cl p (.cons a (.cons b .nil)))
def SI (Γ : Gam) (e : Expr) (i : IT) : Prop := ∀ X p tg, Okx Γ X p → PI X tg e (Ti Γ.K Γ.cl p i)
/-- the same, for one target -/
def SIg (Γ : Gam) (tg e : Expr) (i : IT) : Prop := ∀ X p, Okx Γ X p → PI X tg e (Ti Γ.K Γ.cl p i)
theorem SI.g {Γ : Gam} {e tg : Expr} {i : IT} (h : SI Γ e i) : SIg Γ tg e i := fun X p o => h X p tg o
/-- the walked places, as they stand behind new ones -/
def YPr (ds es : List D) (K : PySem.W.Frag) (B : Hp) (i : Nat) (v : V) : Prop := ∃ d, ds[i]? = some d ∧ Rp K B v d
theorem walk_en {K : PySem.W.Frag} {b : Bool} {a : Addr} {xs : List V} : Walk (Ien K b a) xs.length (fun H => SqB K b H a xs) (YPair (fun i => some (.int (i : Nat))) (fun i => xs[i]?)) := by
  refine ⟨fun i _ hi q => ⟨xs, _, q, List.getElem?_eq_getElem hi⟩, fun _ q => ⟨xs, q, rfl⟩, fun i H v H' _ q y => ?_⟩
  obtain ⟨T, x, h1, h2, h3, h4⟩ := y
  exact ⟨T, .int (i : Nat), x, h1, h2, h3, rfl, h4 xs q⟩
theorem walk_zp {K : PySem.W.Frag} {b c : Bool} {a d : Addr} {xs ys : List V} : Walk (Izp K b c a d) (min xs.length ys.length) (fun H => SqB K b H a xs ∧ SqB K c H d ys) (YPair (fun i => xs[i]?) (fun i => ys[i]?)) := by
  refine ⟨fun i _ hi q => ⟨xs, ys, _, _, q.1, q.2, List.getElem?_eq_getElem (by omega), List.getElem?_eq_getElem (by omega)⟩, fun _ q => ⟨xs, ys, q.1, q.2, rfl⟩, fun i H v H' _ q y => ?_⟩
  obtain ⟨T, x, y, h1, h2, h3, h4, h5⟩ := y
  exact ⟨T, x, y, h1, h2, h3, h4 xs q.1, h5 ys q.2⟩
theorem enD_get : ∀ {ds : List D} {k i : Nat} {d : D}, ds[i]? = some d → (enD k ds)[i]? = some (.tuple [.int ((k + i : Nat) : Int), d])
  | [], k, i, d, h => by simp at h
  | e :: ds, k, 0, d, h => by
    simp at h
    subst h
    rfl
  | e :: ds, k, i + 1, d, h => by
    have h' : ds[i]? = some d := by simpa using h
    have q := enD_get (k := k + 1) h'
    show (enD (k + 1) ds)[i]? = _
    rw [q, show k + 1 + i = k + (i + 1) by omega]
theorem enD_len : ∀ (k : Nat) (ds : List D), (enD k ds).length = ds.length
  | _, [] => rfl
  | k, _ :: ds => congrArg Nat.succ (enD_len (k + 1) ds)
theorem zpD_get {ds es : List D} {i : Nat} {d e : D} (h : ds[i]? = some d) (g : es[i]? = some e) : (zpD ds es)[i]? = some (.tuple [d, e]) := by
  unfold zpD
  rw [List.getElem?_zipWith, h, g]
theorem rngN_get {lo hi : Int} {ds : List D} (h : rngN lo hi = some ds) : (-(2 ^ 62) ≤ lo ∧ lo < 2 ^ 62 ∧ -(2 ^ 62) ≤ hi ∧ hi < 2 ^ 62) ∧ ds.length = (lo - hi).toNat ∧ ∀ i, i < (lo - hi).toNat → ds[i]? = some (.int (lo + (i : Int) * (-1))) := by
  obtain ⟨hb, rfl⟩ := ite_some h
  refine ⟨hb, by simp, fun i hi => ?_⟩
  rw [List.getElem?_map, List.getElem?_range hi, show lo + (i : Int) * (-1) = lo - i by omega]
  rfl
/-- a list or tuple that is known -/
theorem rp_sq {K : PySem.W.Frag} {B : Hp} {v : V} {x : D} {ds : List D} (p : Rp K B v x) (h : itD x = some ds) : ∃ b a xs, v = .ref a ∧ (∀ H, Ex B H → SqB K b H a xs) ∧ RpA K B xs ds := by
  cases p with
  | @lst a xs _ hx rx =>
    cases h
    exact ⟨true, a, xs, rfl, fun H e => .inl ⟨rfl, Or.inl (Or.inl (e _ _ hx))⟩, rx⟩
  | @tup a xs _ hx rx =>
    cases h
    exact ⟨false, a, xs, rfl, fun H e => .inr ⟨rfl, sqt_mono e hx⟩, rx⟩
  | _ => cases h
section
variable {Γ : Gam} {e a b : Expr} {ia ib i : IE} {pos p0 : Pos}
theorem si_seq (h : SE Γ e i) : SI Γ e (.seq i) := fun X p tg o => by
  have h1 := PI_or (PI_or (pi_list (tg := tg) (h X p o)) (pi_tup (tg := tg) (h X p o))) (pi_str (tg := tg) (h X p o))
  rw [o.K] at h1
  exact h1
theorem si_rng1 (h : SE Γ e i) (hb : Γ.bs.contains "range" = true := by rfl) (hg : GlS Γ.sc "range" := by rfl) (hs : ∀ env, starEach [e] env = [(false, eval e env)] := by intro _; rfl) : SI Γ (.Call (.Name "range" p0) [e] [] pos) (.rng1 i) := fun X p tg o =>
  pi_range1 (o.gl hg) (o.bl _ (List.contains_iff_mem.mp hb)) ((sa_cons h sa_nil hs) X p o) (hs _)
theorem si_rng3 (ha : SE Γ a ia) (hc : SE Γ b ib) {e3 : Expr} (h3 : SE Γ e3 (.cst (.int (-1)))) (hb : Γ.bs.contains "range" = true := by rfl) (hg : GlS Γ.sc "range" := by rfl) (hs : ∀ env, starEach [a, b, e3] env = (false, eval a env) :: starEach [b, e3] env := by intro _; rfl)
    (hs2 : ∀ env, starEach [b, e3] env = (false, eval b env) :: starEach [e3] env := by intro _; rfl) (hs3 : ∀ env, starEach [e3] env = (false, eval e3 env) :: starEach [] env := by intro _; rfl) (hpl : ∀ env, (backTo pos (starEach [b, e3] env)).any (·.1) = false := by intro _; rfl) : SI Γ (.Call (.Name "range" p0) [a, b, e3] [] pos) (.rng3 ia ib) := fun X p tg o =>
  pi_range3 (o.gl hg) (o.bl _ (List.contains_iff_mem.mp hb)) ((sa_cons ha (sa_cons hc (sa_cons h3 sa_nil hs3) hs2) hs) X p o) (hs _) (hpl _)
theorem si_enm {elts : List Expr} {kk : Nat} {tpos : Pos} (h : SE Γ e i) (hb : Γ.bs.contains "enumerate" = true := by rfl) (hg : GlS Γ.sc "enumerate" := by rfl) (hs : ∀ env, starEach [e] env = [(false, eval e env)] := by intro _; rfl) : SIg Γ (.Tuple elts kk tpos) (.Call (.Name "enumerate" p0) [e] [] pos) (.enm i) := fun X p o => by
  have q := pi_en (elts := elts) (kk := kk) (tpos := tpos) (p := p0) (pos := pos) (o.gl hg) (o.bl _ (List.contains_iff_mem.mp hb)) ((sa_cons h sa_nil hs) X p o) (hs _)
  rw [o.K] at q
  exact q
theorem si_zp {elts : List Expr} {kk : Nat} {tpos : Pos} (ha : SE Γ a ia) (hc : SE Γ b ib) (hb : Γ.bs.contains "zip" = true := by rfl) (hg : GlS Γ.sc "zip" := by rfl) (hs : ∀ env, starEach [a, b] env = (false, eval a env) :: starEach [b] env := by intro _; rfl)
    (hs2 : ∀ env, starEach [b] env = (false, eval b env) :: starEach [] env := by intro _; rfl) (hpl : ∀ env, (backTo pos (starEach [b] env)).any (·.1) = false := by intro _; rfl) : SIg Γ (.Tuple elts kk tpos) (.Call (.Name "zip" p0) [a, b] [] pos) (.zp ia ib) := fun X p o => by
  have q := pi_zp (elts := elts) (kk := kk) (tpos := tpos) (p := p0) (pos := pos) (o.gl hg) (o.bl _ (List.contains_iff_mem.mp hb)) ((sa_cons ha (sa_cons hc sa_nil hs2) hs) X p o) (hs _) (hpl _)
  rw [o.K] at q
  exact q
theorem si_rng2 (ha : SE Γ a ia) (hc : SE Γ b ib) (hb : Γ.bs.contains "range" = true := by rfl) (hg : GlS Γ.sc "range" := by rfl) (hs : ∀ env, starEach [a, b] env = [(false, eval a env), (false, eval b env)] := by intro _; rfl)
    (hs1 : ∀ env, starEach [a, b] env = (false, eval a env) :: starEach [b] env := by intro _; rfl) (hs2 : ∀ env, starEach [b] env = [(false, eval b env)] := by intro _; rfl) : SI Γ (.Call (.Name "range" p0) [a, b] [] pos) (.rng2 ia ib) := fun X p tg o =>
  pi_range2 (o.gl hg) (o.bl _ (List.contains_iff_mem.mp hb)) ((sa_cons ha (sa_cons hc sa_nil hs2) hs1) X p o) (hs _) (hs2 _)
end
section
variable {K : PySem.W.Frag} {cl : Cl} {p : Pa} {st st1 : Pl} {B M F : Hp} {env : List Sl} {σ : L2.St} {H : Hp} {ds : List D} {it : IT}
theorem itD_lst {d : D} {ds : List D} (h : itD d = some ds) : d = .list ds ∨ d = .tuple ds := by
  cases d with
  | list xs =>
    cases h
    exact .inl rfl
  | tuple xs =>
    cases h
    exact .inr rfl
  | _ => cases h
theorem rng_get {lo hi : Int} {ds : List D} (h : rngD lo hi = some ds) : (-(2 ^ 62) ≤ lo ∧ lo < 2 ^ 62 ∧ -(2 ^ 62) ≤ hi ∧ hi < 2 ^ 62) ∧ ds.length = (hi - lo).toNat ∧ ∀ i, i < (hi - lo).toNat → ds[i]? = some (.int (lo + (i : Int))) := by
  obtain ⟨hb, rfl⟩ := ite_some h
  refine ⟨hb, by simp, fun i hi => ?_⟩
  simp [hi]
theorem itS_lst {d : D} {ds : List D} (h : itS d = some ds) : d = .list ds ∨ d = .tuple ds ∨ ∃ z, d = .str z ∧ ds = signsD z := by
  cases d with
  | list xs =>
    cases h
    exact .inl rfl
  | tuple xs =>
    cases h
    exact .inr (.inl rfl)
  | str z =>
    cases h
    exact .inr (.inr ⟨z, rfl, rfl⟩)
  | _ => cases h
theorem signs_len (z : Str) : (signsD z).length = z.cps.size := by simp [signsD]
theorem signs_get {z : Str} {i c : Nat} (h : z.cps[i]? = some c) : (signsD z)[i]? = some (.str ⟨#[c]⟩) := by
  unfold signsD
  rw [List.getElem?_map, Array.getElem?_toList, h]
  rfl
/-- what a walk over it comes to: a rule for a loop, whatever is walked -/
theorem walk_for {D : Ends} {g : TG} {tb : TS} (r : Rel K p st B M F env σ H) (he : ei cl it env st = some (ds, st1)) (P : Hp → Nat → Hp → L2.St → Hp → Prop)
    (h0 : ∀ B1 H1, Ex B B1 → Rel K p st1 B1 M F env σ H1 → P B1 0 B1 σ H1) (hex : ∀ B1 i B' σ' H', P B1 i B' σ' H' → Ex B1 B' ∧ Ex B' H') (hn : ∀ B1 i B' σ' H' q o, P B1 i B' σ' H' → H' q = none → P B1 i (upd B' q o) σ' (upd H' q o))
    (hs : ∀ B1 i d v B' σ' H', Ex B B1 → ds[i]? = some d → Rp K B' v d → P B1 i B' σ' H' → g v σ' H' fun σ2 H2 => tb { D with nx := fun s h => ∃ B2, P B1 (i + 1) B2 s h, ct := fun s h => ∃ B2, P B1 (i + 1) B2 s h, bk := D.nx } σ2 H2)
    (hd : ∀ B1 B' σ' H', P B1 ds.length B' σ' H' → D.nx σ' H') : tFor (Ti K cl p it) g tb D σ H := by
  cases it with
  | seq e =>
    unfold ei at he
    cases e1 : ev cl e env st with
    | none =>
      rw [e1] at he
      cases he
    | some xs =>
      obtain ⟨x, st2⟩ := xs
      rw [e1] at he
      obtain ⟨ys, e2, e3⟩ := Option.map_eq_some_iff.mp he
      cases e3
      rcases itS_lst e2 with rfl | rfl | ⟨z, rfl, rfl⟩
      · refine .inl (.inl ⟨st, B, M, F, env, _, _, r, e1, fun v B1 H1 x1 r1 p1 => ?_⟩)
        cases p1 with
        | @lst a xs _ hx rx =>
          refine ⟨a, rfl, ⟨xs, Or.inl (Or.inl (r1.bs.b _ _ hx))⟩, ?_⟩
          refine for_list (xs := xs) (fun i s h => ∃ B', P B1 i B' s h) ⟨B1, h0 B1 H1 x1 r1⟩ (fun i s h _ q => ?_) (fun i v s h hi q => ?_) (fun s h q => ?_)
          · obtain ⟨B', q⟩ := q
            obtain ⟨y1, y2⟩ := hex _ _ _ _ _ q
            exact Or.inl (Or.inl (y2 _ _ (y1 _ _ hx)))
          · obtain ⟨B', q⟩ := q
            obtain ⟨d, h1, h2⟩ := rx.getV hi
            exact hs B1 i d v B' s h x1 h1 (h2.mono (hex _ _ _ _ _ q).1) q
          · obtain ⟨B', q⟩ := q
            rw [rx.length] at q
            exact hd B1 B' s h q
      · refine .inl (.inr ⟨st, B, M, F, env, _, _, r, e1, fun v B1 H1 x1 r1 p1 => ?_⟩)
        cases p1 with
        | @tup a xs _ hx rx =>
          refine ⟨a, rfl, ⟨xs, sqt_mono r1.bs.b hx⟩, ?_⟩
          refine for_tup (xs := xs) (fun i s h => ∃ B', P B1 i B' s h) ⟨B1, h0 B1 H1 x1 r1⟩ (fun i s h _ q => ?_) (fun i v s h hi q => ?_) (fun s h q => ?_)
          · obtain ⟨B', q⟩ := q
            obtain ⟨y1, y2⟩ := hex _ _ _ _ _ q
            exact sqt_mono (y1.trans y2) hx
          · obtain ⟨B', q⟩ := q
            obtain ⟨d, h1, h2⟩ := rx.getV hi
            exact hs B1 i d v B' s h x1 h1 (h2.mono (hex _ _ _ _ _ q).1) q
          · obtain ⟨B', q⟩ := q
            rw [rx.length] at q
            exact hd B1 B' s h q
      · refine .inr ⟨st, B, M, F, env, _, _, r, e1, fun v B1 H1 x1 r1 p1 => ?_⟩
        cases p1
        refine ⟨z, rfl, ?_⟩
        refine for_it walk_str (fun i s h => ∃ B', P B1 i B' s h) ⟨B1, h0 B1 H1 x1 r1⟩ (fun _ _ _ _ _ => True.intro) (fun i v s h h2 hi q y => ?_) (fun s h q => ?_)
        · obtain ⟨B', q⟩ := q
          obtain ⟨rfl, c, hc, rfl⟩ := y
          exact hs B1 i _ _ B' s h2 x1 (signs_get hc) (.str _) q
        · obtain ⟨B', q⟩ := q
          rw [← signs_len] at q
          exact hd B1 B' s h q
  | rng1 e =>
    unfold ei at he
    split at he
    · rename_i n st2 e1
      obtain ⟨ys, e2, e3⟩ := Option.map_eq_some_iff.mp he
      cases e3
      obtain ⟨⟨h1, h2, h3, h4⟩, hl, hg⟩ := rng_get e2
      refine ⟨st, B, M, F, env, [.int n], _, r, by unfold ea; rw [e1]; rfl, fun vs B1 H1 x1 r1 p1 => ?_⟩
      match vs, p1 with
      | [_], .cons (.int _) .nil =>
        refine ⟨n, rfl, h3, h4, ?_⟩
        have e0 : (n - 0).toNat = n.toNat := by rw [Int.sub_zero]
        rw [e0] at hl hg
        refine for_range (lo := 0) (n := n.toNat) (fun i s h => ∃ B', P B1 i B' s h) ⟨B1, h0 B1 H1 x1 r1⟩ (fun i s h hi q => ?_) (fun s h q => ?_)
        · obtain ⟨B', q⟩ := q
          exact hs B1 i _ _ B' s h x1 (hg i hi) (.int _) q
        · obtain ⟨B', q⟩ := q
          rw [← hl] at q
          exact hd B1 B' s h q
    · cases he
  | rng2 a b =>
    unfold ei at he
    split at he
    · rename_i lo st2 e1
      split at he
      · rename_i hi st3 e2
        obtain ⟨ys, e3, e4⟩ := Option.map_eq_some_iff.mp he
        cases e4
        obtain ⟨hbd, hl, hg⟩ := rng_get e3
        refine ⟨st, B, M, F, env, [.int lo, .int hi], _, r, by unfold ea; rw [e1]; unfold ea; simp only [e2]; rfl, fun vs B1 H1 x1 r1 p1 => ?_⟩
        match vs, p1 with
        | [_, _], .cons (.int _) (.cons (.int _) .nil) =>
          refine ⟨lo, hi, rfl, hbd, ?_⟩
          refine for_range (lo := lo) (n := (hi - lo).toNat) (fun i s h => ∃ B', P B1 i B' s h) ⟨B1, h0 B1 H1 x1 r1⟩ (fun i s h hi q => ?_) (fun s h q => ?_)
          · obtain ⟨B', q⟩ := q
            exact hs B1 i _ _ B' s h x1 (hg i hi) (.int _) q
          · obtain ⟨B', q⟩ := q
            rw [← hl] at q
            exact hd B1 B' s h q
      · cases he
    · cases he
  | rng3 a b =>
    unfold ei at he
    split at he
    · rename_i lo st2 e1
      split at he
      · rename_i hi st3 e2
        obtain ⟨ys, e3, e4⟩ := Option.map_eq_some_iff.mp he
        cases e4
        obtain ⟨⟨b1, b2, b3, b4⟩, hl, hg⟩ := rngN_get e3
        refine ⟨st, B, M, F, env, [.int lo, .int hi, .int (-1)], _, r, by unfold ea; rw [e1]; unfold ea; simp only [e2]; rfl, fun vs B1 H1 x1 r1 p1 => ?_⟩
        match vs, p1 with
        | [_, _, _], .cons (.int _) (.cons (.int _) (.cons (.int _) .nil)) =>
          refine ⟨lo, hi, -1, (lo - hi).toNat, rfl, RgC.neg b1 b2 b3 b4, ?_⟩
          refine for_rangeC (lo := lo) (c := -1) (n := (lo - hi).toNat) (fun i s h => ∃ B', P B1 i B' s h) ⟨B1, h0 B1 H1 x1 r1⟩ (fun i s h hi q => ?_) (fun s h q => ?_)
          · obtain ⟨B', q⟩ := q
            exact hs B1 i _ _ B' s h x1 (hg i hi) (.int _) q
          · obtain ⟨B', q⟩ := q
            rw [← hl] at q
            exact hd B1 B' s h q
      · cases he
    · cases he
  | enm e =>
    unfold ei at he
    split at he
    · rename_i x st2 e1
      obtain ⟨ys, e2, e3⟩ := Option.map_eq_some_iff.mp he
      cases e3
      refine ⟨st, B, M, F, env, [x], _, r, by unfold ea; rw [e1]; rfl, fun vs B1 H1 x1 r1 p1 => ?_⟩
      match vs, p1 with
      | [v], .cons pv .nil =>
        obtain ⟨b, a, xs, rfl, hq, rx⟩ := rp_sq pv e2
        refine ⟨b, a, xs, rfl, hq H1 r1.bs.b, ?_⟩
        refine for_it (walk_en (K := K) (b := b) (a := a) (xs := xs)) (fun i s h => ∃ B', P B1 i B' s h) ⟨B1, h0 B1 H1 x1 r1⟩ (fun i s h _ q => ?_) (fun i v s h h2 hi q y => ?_) (fun s h q => ?_)
        · obtain ⟨B', q⟩ := q
          obtain ⟨y1, y2⟩ := hex _ _ _ _ _ q
          exact hq h (y1.trans y2)
        · obtain ⟨B', q⟩ := q
          obtain ⟨T, x', y', rfl, hT, rfl, e4, e5⟩ := y
          cases e4
          obtain ⟨y1, y2⟩ := hex _ _ _ _ _ q
          obtain ⟨d, h3, h4⟩ := rx.getV e5
          have g := enD_get (k := 0) h3
          rw [Nat.zero_add] at g
          exact hs B1 i _ _ (upd B' T (.tup [.int (i : Nat), y'])) s _ x1 g (.tup (Or.inl (Or.inl upd_same)) (.cons (.int _) (.cons (h4.mono (y1.trans (Ex.new (y2.free hT)))) .nil))) (hn _ _ _ _ _ _ _ q hT)
        · obtain ⟨B', q⟩ := q
          rw [rx.length, ← enD_len 0] at q
          exact hd B1 B' s h q
    · cases he
  | zp a b =>
    unfold ei at he
    split at he
    · rename_i x st2 e1
      split at he
      · rename_i y st3 e2
        split at he
        · rename_i zx e3
          obtain ⟨zy, e4, e5⟩ := Option.map_eq_some_iff.mp he
          cases e5
          refine ⟨st, B, M, F, env, [x, y], _, r, by unfold ea; rw [e1]; unfold ea; simp only [e2]; rfl, fun vs B1 H1 x1 r1 p1 => ?_⟩
          match vs, p1 with
          | [v, u], .cons pv (.cons pu .nil) =>
            obtain ⟨b1, a1, xs, rfl, hq1, rx⟩ := rp_sq pv e3
            obtain ⟨b2, a2, ys, rfl, hq2, ry⟩ := rp_sq pu e4
            refine ⟨b1, b2, a1, a2, xs, ys, rfl, hq1 H1 r1.bs.b, hq2 H1 r1.bs.b, ?_⟩
            refine for_it (walk_zp (K := K) (b := b1) (c := b2) (a := a1) (d := a2) (xs := xs) (ys := ys)) (fun i s h => ∃ B', P B1 i B' s h) ⟨B1, h0 B1 H1 x1 r1⟩ (fun i s h _ q => ?_) (fun i v s h h2 hi q y => ?_) (fun s h q => ?_)
            · obtain ⟨B', q⟩ := q
              obtain ⟨y1, y2⟩ := hex _ _ _ _ _ q
              exact ⟨hq1 h (y1.trans y2), hq2 h (y1.trans y2)⟩
            · obtain ⟨B', q⟩ := q
              obtain ⟨T, x', y', rfl, hT, rfl, e4, e5⟩ := y
              obtain ⟨y1, y2⟩ := hex _ _ _ _ _ q
              obtain ⟨d, h3, h4⟩ := rx.getV e4
              obtain ⟨d2, h5, h6⟩ := ry.getV e5
              have n := y1.trans (Ex.new (o := .tup [x', y']) (y2.free hT))
              exact hs B1 i _ _ (upd B' T (.tup [x', y'])) s _ x1 (zpD_get h3 h5) (.tup (Or.inl (Or.inl upd_same)) (.cons (h4.mono n) (.cons (h6.mono n) .nil))) (hn _ _ _ _ _ _ _ q hT)
            · obtain ⟨B', q⟩ := q
              have e6 : min xs.length ys.length = (zpD zx zy).length := by rw [rx.length, ry.length]; exact List.length_zipWith.symm
              rw [e6] at q
              exact hd B1 B' s h q
        · cases he
      · cases he
    · cases he

/-- the same of a comprehension -/
theorem walk_lcG {Q : VK} {js : List Nat} {g : TG} {tt : TT} {te : TE} (r : Rel K p st B M F env σ H) (he : ei cl it env st = some (ds, st1)) (P : Hp → Addr → Nat → Hp → Hp → Prop)
    (h0 : ∀ B1 H1 Dl, Ex B B1 → Rel K p st1 B1 M F env σ H1 → H1 Dl = none → P B1 Dl 0 B1 (upd H1 Dl (.lst []))) (hex : ∀ B1 Dl i B' H', P B1 Dl i B' H' → Ex B1 B' ∧ Ex B' H') (hn : ∀ B1 Dl i B' H' q o, P B1 Dl i B' H' → H' q = none → P B1 Dl i (upd B' q o) (upd H' q o))
    (hst0 : ∀ B1 Dl i d v B' H', Ex B B1 → ds[i]? = some d → Rp K B' v d → P B1 Dl i B' H' → g v (wipe σ js) H' fun σ2 H2 => wipe σ2 js = wipe σ js ∧ tt σ2 H2 fun b H3 =>
      if b = true then te σ2 H3 fun y H4 => ∃ acc, H4 Dl = some (.lst acc) ∧ acc.length < sizeLine ∧ ∃ B2, P B1 Dl (i + 1) B2 (upd H4 Dl (.lst (acc ++ [y]))) else ∃ B2, P B1 Dl (i + 1) B2 H3)
    (hd : ∀ B1 Dl B' H', Ex B B1 → P B1 Dl ds.length B' H' → Q (.ref Dl) H') : tLc (Ti K cl p it) g tt te js σ H Q := by
  have hst : ∀ B1 Dl i d v B' H', Ex B B1 → ds[i]? = some d → Rp K B1 v d → P B1 Dl i B' H' → g v (wipe σ js) H' fun σ2 H2 => wipe σ2 js = wipe σ js ∧ tt σ2 H2 fun b H3 =>
      if b = true then te σ2 H3 fun y H4 => ∃ acc, H4 Dl = some (.lst acc) ∧ acc.length < sizeLine ∧ ∃ B2, P B1 Dl (i + 1) B2 (upd H4 Dl (.lst (acc ++ [y]))) else ∃ B2, P B1 Dl (i + 1) B2 H3 := fun B1 Dl i d v B' H' x1 hi pv q => hst0 B1 Dl i d v B' H' x1 hi (pv.mono (hex _ _ _ _ _ q).1) q
  cases it with
  | seq e =>
    unfold ei at he
    cases e1 : ev cl e env st with
    | none =>
      rw [e1] at he
      cases he
    | some xs =>
      obtain ⟨x, st2⟩ := xs
      rw [e1] at he
      obtain ⟨ys, e2, e3⟩ := Option.map_eq_some_iff.mp he
      cases e3
      rcases itS_lst e2 with rfl | rfl | ⟨z, rfl, rfl⟩
      · refine .inl (.inl ⟨st, B, M, F, env, _, _, r, e1, fun v B1 H1 x1 r1 p1 => ?_⟩)
        cases p1 with
        | @lst a xs _ hx rx =>
          refine ⟨a, rfl, ⟨xs, Or.inl (Or.inl (r1.bs.b _ _ hx))⟩, fun Dl hD => ?_⟩
          refine lc_list (xs := xs) (fun i h => ∃ B', P B1 Dl i B' h) ⟨B1, h0 B1 H1 Dl x1 r1 hD⟩ (fun i h _ q => ?_) (fun i v h hi q => ?_) (fun h q => ?_)
          · obtain ⟨B', q⟩ := q
            obtain ⟨y1, y2⟩ := hex _ _ _ _ _ q
            exact Or.inl (Or.inl (y2 _ _ (y1 _ _ hx)))
          · obtain ⟨B', q⟩ := q
            obtain ⟨d, h1, h2⟩ := rx.getV hi
            exact hst B1 Dl i d v B' h x1 h1 h2 q
          · obtain ⟨B', q⟩ := q
            rw [rx.length] at q
            exact hd B1 Dl B' h x1 q
      · refine .inl (.inr ⟨st, B, M, F, env, _, _, r, e1, fun v B1 H1 x1 r1 p1 => ?_⟩)
        cases p1 with
        | @tup a xs _ hx rx =>
          refine ⟨a, rfl, ⟨xs, sqt_mono r1.bs.b hx⟩, fun Dl hD => ?_⟩
          refine lc_tup (xs := xs) (fun i h => ∃ B', P B1 Dl i B' h) ⟨B1, h0 B1 H1 Dl x1 r1 hD⟩ (fun i h _ q => ?_) (fun i v h hi q => ?_) (fun h q => ?_)
          · obtain ⟨B', q⟩ := q
            obtain ⟨y1, y2⟩ := hex _ _ _ _ _ q
            exact sqt_mono (y1.trans y2) hx
          · obtain ⟨B', q⟩ := q
            obtain ⟨d, h1, h2⟩ := rx.getV hi
            exact hst B1 Dl i d v B' h x1 h1 h2 q
          · obtain ⟨B', q⟩ := q
            rw [rx.length] at q
            exact hd B1 Dl B' h x1 q
      · refine .inr ⟨st, B, M, F, env, _, _, r, e1, fun v B1 H1 x1 r1 p1 => ?_⟩
        cases p1
        refine ⟨z, rfl, fun Dl hD => ?_⟩
        refine lc_it walk_str (fun i h => ∃ B', P B1 Dl i B' h) ⟨B1, h0 B1 H1 Dl x1 r1 hD⟩ (fun _ _ _ _ => True.intro) (fun i v h h2 hi q y => ?_) (fun h q => ?_)
        · obtain ⟨B', q⟩ := q
          obtain ⟨rfl, c, hc, rfl⟩ := y
          exact hst B1 Dl i _ _ B' h2 x1 (signs_get hc) (.str _) q
        · obtain ⟨B', q⟩ := q
          rw [← signs_len] at q
          exact hd B1 Dl B' h x1 q
  | rng1 e =>
    unfold ei at he
    split at he
    · rename_i n st2 e1
      obtain ⟨ys, e2, e3⟩ := Option.map_eq_some_iff.mp he
      cases e3
      obtain ⟨⟨h1, h2, h3, h4⟩, hl, hg⟩ := rng_get e2
      refine ⟨st, B, M, F, env, [.int n], _, r, by unfold ea; rw [e1]; rfl, fun vs B1 H1 x1 r1 p1 => ?_⟩
      match vs, p1 with
      | [_], .cons (.int _) .nil =>
        refine ⟨n, rfl, h3, h4, fun Dl hD => ?_⟩
        have e0 : (n - 0).toNat = n.toNat := by rw [Int.sub_zero]
        rw [e0] at hl hg
        refine lc_range (lo := 0) (n := n.toNat) (fun i h => ∃ B', P B1 Dl i B' h) ⟨B1, h0 B1 H1 Dl x1 r1 hD⟩ (fun i h hi q => ?_) (fun h q => ?_)
        · obtain ⟨B', q⟩ := q
          exact hst B1 Dl i _ _ B' h x1 (hg i hi) (.int _) q
        · obtain ⟨B', q⟩ := q
          rw [← hl] at q
          exact hd B1 Dl B' h x1 q
    · cases he
  | rng2 a b =>
    unfold ei at he
    split at he
    · rename_i lo st2 e1
      split at he
      · rename_i hi st3 e2
        obtain ⟨ys, e3, e4⟩ := Option.map_eq_some_iff.mp he
        cases e4
        obtain ⟨hbd, hl, hg⟩ := rng_get e3
        refine ⟨st, B, M, F, env, [.int lo, .int hi], _, r, by unfold ea; rw [e1]; unfold ea; simp only [e2]; rfl, fun vs B1 H1 x1 r1 p1 => ?_⟩
        match vs, p1 with
        | [_, _], .cons (.int _) (.cons (.int _) .nil) =>
          refine ⟨lo, hi, rfl, hbd, fun Dl hD => ?_⟩
          refine lc_range (lo := lo) (n := (hi - lo).toNat) (fun i h => ∃ B', P B1 Dl i B' h) ⟨B1, h0 B1 H1 Dl x1 r1 hD⟩ (fun i h hi q => ?_) (fun h q => ?_)
          · obtain ⟨B', q⟩ := q
            exact hst B1 Dl i _ _ B' h x1 (hg i hi) (.int _) q
          · obtain ⟨B', q⟩ := q
            rw [← hl] at q
            exact hd B1 Dl B' h x1 q
      · cases he
    · cases he
  | rng3 a b =>
    unfold ei at he
    split at he
    · rename_i lo st2 e1
      split at he
      · rename_i hi st3 e2
        obtain ⟨ys, e3, e4⟩ := Option.map_eq_some_iff.mp he
        cases e4
        obtain ⟨⟨b1, b2, b3, b4⟩, hl, hg⟩ := rngN_get e3
        refine ⟨st, B, M, F, env, [.int lo, .int hi, .int (-1)], _, r, by unfold ea; rw [e1]; unfold ea; simp only [e2]; rfl, fun vs B1 H1 x1 r1 p1 => ?_⟩
        match vs, p1 with
        | [_, _, _], .cons (.int _) (.cons (.int _) (.cons (.int _) .nil)) =>
          refine ⟨lo, hi, -1, (lo - hi).toNat, rfl, RgC.neg b1 b2 b3 b4, fun Dl hD => ?_⟩
          refine lc_it (walk_rangeC (lo := lo) (c := -1) (n := (lo - hi).toNat)) (fun i h => ∃ B', P B1 Dl i B' h) ⟨B1, h0 B1 H1 Dl x1 r1 hD⟩ (fun _ _ _ _ => True.intro) (fun i v h h2 hi q y => ?_) (fun h q => ?_)
          · obtain ⟨B', q⟩ := q
            obtain ⟨rfl, rfl⟩ := y
            exact hst B1 Dl i _ _ B' h2 x1 (hg i hi) (.int _) q
          · obtain ⟨B', q⟩ := q
            rw [← hl] at q
            exact hd B1 Dl B' h x1 q
      · cases he
    · cases he
  | enm e =>
    unfold ei at he
    split at he
    · rename_i x st2 e1
      obtain ⟨ys, e2, e3⟩ := Option.map_eq_some_iff.mp he
      cases e3
      refine ⟨st, B, M, F, env, [x], _, r, by unfold ea; rw [e1]; rfl, fun vs B1 H1 x1 r1 p1 => ?_⟩
      match vs, p1 with
      | [v], .cons pv .nil =>
        obtain ⟨b, a, xs, rfl, hq, rx⟩ := rp_sq pv e2
        refine ⟨b, a, xs, rfl, hq H1 r1.bs.b, fun Dl hD => ?_⟩
        refine lc_it (walk_en (K := K) (b := b) (a := a) (xs := xs)) (fun i h => ∃ B', P B1 Dl i B' h) ⟨B1, h0 B1 H1 Dl x1 r1 hD⟩ (fun i h _ q => ?_) (fun i v h h2 hi q y => ?_) (fun h q => ?_)
        · obtain ⟨B', q⟩ := q
          obtain ⟨y1, y2⟩ := hex _ _ _ _ _ q
          exact hq h (y1.trans y2)
        · obtain ⟨B', q⟩ := q
          obtain ⟨T, x', y', rfl, hT, rfl, e4, e5⟩ := y
          cases e4
          obtain ⟨y1, y2⟩ := hex _ _ _ _ _ q
          obtain ⟨d, h3, h4⟩ := rx.getV e5
          have g := enD_get (k := 0) h3
          rw [Nat.zero_add] at g
          exact hst0 B1 Dl i _ _ (upd B' T (.tup [.int (i : Nat), y'])) _ x1 g (.tup (Or.inl (Or.inl upd_same)) (.cons (.int _) (.cons (h4.mono (y1.trans (Ex.new (y2.free hT)))) .nil))) (hn _ _ _ _ _ _ _ q hT)
        · obtain ⟨B', q⟩ := q
          rw [rx.length, ← enD_len 0] at q
          exact hd B1 Dl B' h x1 q
    · cases he
  | zp a b =>
    unfold ei at he
    split at he
    · rename_i x st2 e1
      split at he
      · rename_i y st3 e2
        split at he
        · rename_i zx e3
          obtain ⟨zy, e4, e5⟩ := Option.map_eq_some_iff.mp he
          cases e5
          refine ⟨st, B, M, F, env, [x, y], _, r, by unfold ea; rw [e1]; unfold ea; simp only [e2]; rfl, fun vs B1 H1 x1 r1 p1 => ?_⟩
          match vs, p1 with
          | [v, u], .cons pv (.cons pu .nil) =>
            obtain ⟨b1, a1, xs, rfl, hq1, rx⟩ := rp_sq pv e3
            obtain ⟨b2, a2, ys, rfl, hq2, ry⟩ := rp_sq pu e4
            refine ⟨b1, b2, a1, a2, xs, ys, rfl, hq1 H1 r1.bs.b, hq2 H1 r1.bs.b, fun Dl hD => ?_⟩
            refine lc_it (walk_zp (K := K) (b := b1) (c := b2) (a := a1) (d := a2) (xs := xs) (ys := ys)) (fun i h => ∃ B', P B1 Dl i B' h) ⟨B1, h0 B1 H1 Dl x1 r1 hD⟩ (fun i h _ q => ?_) (fun i v h h2 hi q y => ?_) (fun h q => ?_)
            · obtain ⟨B', q⟩ := q
              obtain ⟨y1, y2⟩ := hex _ _ _ _ _ q
              exact ⟨hq1 h (y1.trans y2), hq2 h (y1.trans y2)⟩
            · obtain ⟨B', q⟩ := q
              obtain ⟨T, x', y', rfl, hT, rfl, e4, e5⟩ := y
              obtain ⟨y1, y2⟩ := hex _ _ _ _ _ q
              obtain ⟨d, h3, h4⟩ := rx.getV e4
              obtain ⟨d2, h5, h6⟩ := ry.getV e5
              have n := y1.trans (Ex.new (o := .tup [x', y']) (y2.free hT))
              exact hst0 B1 Dl i _ _ (upd B' T (.tup [x', y'])) _ x1 (zpD_get h3 h5) (.tup (Or.inl (Or.inl upd_same)) (.cons (h4.mono n) (.cons (h6.mono n) .nil))) (hn _ _ _ _ _ _ _ q hT)
            · obtain ⟨B', q⟩ := q
              have e6 : min xs.length ys.length = (zpD zx zy).length := by rw [rx.length, ry.length]; exact List.length_zipWith.symm
              rw [e6] at q
              exact hd B1 Dl B' h x1 q
        · cases he
      · cases he
    · cases he
theorem walk_lc {Q : VK} {j : Nat} {tt : TT} {te : TE} (r : Rel K p st B M F env σ H) (he : ei cl it env st = some (ds, st1)) (P : Hp → Addr → Nat → Hp → Hp → Prop)
    (h0 : ∀ B1 H1 Dl, Ex B B1 → Rel K p st1 B1 M F env σ H1 → H1 Dl = none → P B1 Dl 0 B1 (upd H1 Dl (.lst []))) (hex : ∀ B1 Dl i B' H', P B1 Dl i B' H' → Ex B1 B' ∧ Ex B' H') (hn : ∀ B1 Dl i B' H' q o, P B1 Dl i B' H' → H' q = none → P B1 Dl i (upd B' q o) (upd H' q o))
    (hs : ∀ B1 Dl i d v B' H', Ex B B1 → ds[i]? = some d → Rp K B' v d → P B1 Dl i B' H' → tt (σ.set j (some v)) H' fun b H3 => if b = true then te (σ.set j (some v)) H3 fun y H4 => ∃ acc, H4 Dl = some (.lst acc) ∧ acc.length < sizeLine ∧ ∃ B2, P B1 Dl (i + 1) B2 (upd H4 Dl (.lst (acc ++ [y]))) else ∃ B2, P B1 Dl (i + 1) B2 H3)
    (hd : ∀ B1 Dl B' H', Ex B B1 → P B1 Dl ds.length B' H' → Q (.ref Dl) H') : tLc (Ti K cl p it) (gName j) tt te [j] σ H Q := by
  have hw : ∀ v : V, wipe ((wipe σ [j]).set j (some v)) [j] = wipe σ [j] := fun v => by simp [wipe]
  have hw2 : ∀ v : V, (wipe σ [j]).set j (some v) = σ.set j (some v) := fun v => by simp [wipe]
  refine walk_lcG r he P h0 hex hn (fun B1 Dl i d v B' H' x1 hi pv q => ?_) hd
  show wipe ((wipe σ [j]).set j (some v)) [j] = wipe σ [j] ∧ _
  refine ⟨hw v, ?_⟩
  rw [hw2 v]
  exact hs B1 Dl i d v B' H' x1 hi pv q
end
end Ip

set_option Elab.async false
set_option linter.all false
set_option maxRecDepth 100000
set_option maxHeartbeats 4000000
namespace Ip
open PySem L2
/-- an address that none of the parts knows -/
structure Fr (B M F : Hp) (p : Pa) (a : Addr) : Prop where
  b : B a = none
  m : M a = none
  f : F a = none
  p : NotP p a
section
variable {K : PySem.W.Frag} {p : Pa} {st st' : Pl} {B B' M F : Hp} {env env' : List Sl} {σ σ' : L2.St} {H H' : Hp} {a : Addr} {o : HO}
theorem Rel.fr (r : Rel K p st B M F env σ H) (h : H a = none) : Fr B M F p a := ⟨r.bs.b.free h, r.m.free h, r.bs.f.free h, r.bs.pn h, fun k hk => r.bs.ce.ne h hk rfl, fun t ht => r.bs.ce.tne ht (.inl h)⟩
/-- no table is such an own list -/
theorem Rel.mtn (r : Rel K p st B M F env σ H) (h : M a = some o) : ∀ q ∈ p.tb, q.1 ≠ a := fun q hq e => by
  have := r.mt q hq
  rw [e, h] at this
  cases this
/-- such an address may change -/
theorem Rel.put (r : Rel K p st B M F env σ H) (f : Fr B M F p a) (hl : H a = none ∨ ∃ xs, H a = some (.lst xs)) : Rel K p st B M F env σ (upd H a o) where
  bs := {
    b := r.bs.b.right f.b
    f := r.bs.f.right f.f
    d := r.bs.d
    pf := r.bs.pf
    pb := r.bs.pb
    pl := by
      obtain ⟨h1, h2⟩ := r.bs.pl
      exact ⟨by rw [upd_ne (fun e => f.p.1 e.symm)]; exact h1, h2⟩
    ce := r.bs.ce.up (fun k c hk => ⟨(r.bs.ce.b k c hk).1, (r.bs.ce.b k c hk).2.1⟩) (fun k c hk => by rw [upd_ne (fun e => f.p.2.1 k (by rw [← e]; exact hk))]) r.bs.ce.tn fun z => tabs_upd z hl }
  m := r.m.right f.m
  md := r.md
  mc := r.mc
  mt := r.mt
  en := r.en
theorem SlR.up (f : M a = none) : ∀ {s : Sl} {w : Option V}, SlR K p B M s w → SlR K p B (upd M a o) s w
  | .no, _, _ => True.intro
  | .im _, some _, h => h
  | .im _, none, h => h
  | .ow _, some (.ref _), h => by
    obtain ⟨xs, h1, h2⟩ := h
    exact ⟨xs, by rw [upd_ne (ne_of_none h1 f)]; exact h1, h2⟩
  | .ow _, some .non, h | .ow _, some (.bl _), h | .ow _, some (.int _), h | .ow _, some (.str _), h | .ow _, some (.byt _), h | .ow _, some (.flt _), h | .ow _, some (.ty _), h | .ow _, none, h => h
  | .pl, some (.ref _), h => h
  | .pl, some .non, h | .pl, some (.bl _), h | .pl, some (.int _), h | .pl, some (.str _), h | .pl, some (.byt _), h | .pl, some (.flt _), h | .pl, some (.ty _), h | .pl, none, h => h
  | .ce _, some (.ref _), h => h
  | .ce _, some .non, h | .ce _, some (.bl _), h | .ce _, some (.int _), h | .ce _, some (.str _), h | .ce _, some (.byt _), h | .ce _, some (.flt _), h | .ce _, some (.ty _), h | .ce _, none, h => h
  | .er _ _, _, h => h
theorem EnR.up (f : M a = none) (h : EnR K p B M env σ) : EnR K p B (upd M a o) env σ := ⟨h.len, fun i s hi => by
  obtain ⟨w, h1, h2⟩ := h.at_ i s hi
  exact ⟨w, h1, h2.up f⟩, h.ap, h.io⟩
/-- such an object taken among the own ones -/
theorem Rel.take (r : Rel K p st B M F env σ H) (f : Fr B M F p a) (ha : H a = some o) : Rel K p st B (upd M a o) F env σ H where
  bs := r.bs
  m := fun b u h => by
    by_cases hb : b = a
    · subst hb
      rw [upd_same] at h
      rw [← h]
      exact ha
    · rw [upd_ne hb] at h
      exact r.m b u h
  md := fun b u h => by
    by_cases hb : b = a
    · subst hb
      exact ⟨f.b, f.f, f.p.1⟩
    · rw [upd_ne hb] at h
      exact r.md b u h
  mc := fun k c hk => by
    rw [upd_ne (fun e => f.p.2.1 k (by rw [← e]; exact hk))]
    exact r.mc k c hk
  mt := fun q hq => by
    rw [upd_ne (f.p.2.2 q hq)]
    exact r.mt q hq
  en := r.en.up f.m
theorem EnR.set (h : EnR K p B M env σ) {v : V} {d : D} (pv : Rp K B v d) (j : Nat) : EnR K p B M (env.set j (.im d)) (σ.set j (some v)) where
  len := by rw [List.length_set, List.length_set]; exact h.len
  at_ := fun i s hi => by
    by_cases e : j = i
    · subst e
      have hl : j < env.length := by
        have := (List.getElem?_eq_some_iff.mp hi).1
        rw [List.length_set] at this
        exact this
      rw [List.getElem?_set_self hl] at hi
      cases hi
      exact ⟨some v, List.getElem?_set_self (by rw [← h.len]; exact hl), pv⟩
    · rw [List.getElem?_set_ne e] at hi
      obtain ⟨w, h1, h2⟩ := h.at_ i s hi
      exact ⟨w, by rw [List.getElem?_set_ne e]; exact h1, h2⟩
  ap := fun i k ds es b hi hk si sk => by
    have hne : ∀ {i : Nat} {ds : List D}, (env.set j (.im d))[i]? = some (.ow ds) → j ≠ i := fun {i ds} hi e => by
      subst e
      have hl : j < env.length := by
        have := (List.getElem?_eq_some_iff.mp hi).1
        rw [List.length_set] at this
        exact this
      rw [List.getElem?_set_self hl] at hi
      cases hi
    have n1 := hne hi
    have n2 := hne hk
    rw [List.getElem?_set_ne n1] at hi si
    rw [List.getElem?_set_ne n2] at hk sk
    exact h.ap i k ds es b hi hk si sk
  io := fun i a ds hp hi => by
    by_cases e : j = i
    · subst e
      have hl : j < env.length := by
        have := (List.getElem?_eq_some_iff.mp hi).1
        rw [List.length_set] at this
        exact this
      rw [List.getElem?_set_self hl] at hi
      cases hi
    · rw [List.getElem?_set_ne e] at hi ⊢
      exact h.io i a ds hp hi
theorem Rel.set (r : Rel K p st B M F env σ H) {v : V} {d : D} (pv : Rp K B v d) (j : Nat) : Rel K p st B M F (env.set j (.im d)) (σ.set j (some v)) H := ⟨r.bs, r.m, r.md, r.mc, r.mt, r.en.set pv j⟩
/-- behind a block that had one own object more, and names of its own -/
theorem Rel.rest (r : Rel K p st B M F env σ H) (f : M a = none) (x : Ex B B') (r' : Rel K p st' B' (upd M a o) F env' σ' H') : Rel K p st' B' M F env σ H' where
  bs := r'.bs
  m := fun b u h => r'.m b u (by rw [upd_ne (ne_of_none h f)]; exact h)
  md := fun b u h => ⟨(r'.md b u (by rw [upd_ne (ne_of_none h f)]; exact h)).1, (r.md b u h).2⟩
  mc := r.mc
  mt := r.mt
  en := r.en.mono x
theorem Rel.restFr (f : Fr B M F p a) (r' : Rel K p st' B' (upd M a o) F env' σ' H') : Fr B' M F p a ∧ H' a = some o := ⟨⟨(r'.md a o upd_same).1, f.m, f.f, f.p⟩, r'.m a o upd_same⟩
end
/-! ### comprehensions -/
section
variable {Γ : Gam} {e : Expr} {i : IE} {pos : Pos}
theorem sts_nil : STs Γ [] .nil := fun X p o => PTs_weak pts_nil fun σ H Q q => by
  obtain ⟨st, B, M, F, env, b, st', r, he, k⟩ := q
  unfold et at he
  cases he
  exact k B H (Ex.refl B) r
theorem sts_one (h : ST Γ e i) : STs Γ [e] (.cons i .nil) := fun X p o => PTs_weak (pts_one (h X p o)) fun σ H Q q => by
  obtain ⟨st, B, M, F, env, b, st', r, he, k⟩ := q
  unfold et at he
  split at he
  · rename_i st1 e1
    unfold et at he
    cases he
    exact ⟨st, B, M, F, env, true, _, r, e1, k⟩
  · rename_i st1 e1
    cases he
    exact ⟨st, B, M, F, env, false, _, r, e1, k⟩
  · cases he
def lcF (cl : Cl) (j : Nat) (cs : IEs) (e : IE) (env : List Sl) : D → Pl → Option (Option D × Pl) := fun d st => match et cl cs (env.set j (.im d)) st with
        | some (true, st2) => (match ev cl e (env.set j (.im d)) st2 with
          | some (y, st3) => some (some y, st3)
          | none => none)
        | some (false, st2) => some (none, st2)
        | none => none
theorem ev_lc {cl : Cl} {j : Nat} {it : IT} {cs : IEs} {e : IE} {env : List Sl} {st : Pl} {d : D} {st4 : Pl} (h : ev cl (.lc j it cs e) env st = some (d, st4)) :
    ∃ ds st1 ys, ei cl it env st = some (ds, st1) ∧ ds.length ≤ most ∧ lcG (lcF cl j cs e env) ds st1 = some (ys, st4) ∧ d = .list ys := by
  unfold ev at h
  split at h
  · rename_i ds st1 e1
    obtain ⟨hl, h⟩ : ds.length ≤ most ∧ _ := by
      by_cases hl : ds.length ≤ most
      · rw [if_pos hl] at h
        exact ⟨hl, h⟩
      · rw [if_neg hl] at h
        cases h
    split at h
    · rename_i ys st5 e2
      cases h
      exact ⟨ds, st1, ys, e1, hl, e2, rfl⟩
    · cases h
  · cases h
theorem lcG_cons {f : D → Pl → Option (Option D × Pl)} {d : D} {ds : List D} {st : Pl} {ys : List D} {st4 : Pl} (h : lcG f (d :: ds) st = some (ys, st4)) :
    (∃ st1, f d st = some (none, st1) ∧ lcG f ds st1 = some (ys, st4)) ∨ (∃ y st1 zs, f d st = some (some y, st1) ∧ lcG f ds st1 = some (zs, st4) ∧ ys = y :: zs) := by
  unfold lcG at h
  split at h
  · rename_i st1 e1
    exact .inl ⟨st1, e1, h⟩
  · rename_i y st1 e1
    split at h
    · rename_i zs st2 e2
      cases h
      exact .inr ⟨y, st1, zs, e1, e2, rfl⟩
    · cases h
  · cases h
theorem lcP_new {K : PySem.W.Frag} {B B1 B' M F : Hp} {p : Pa} {Dl q : Addr} {n : Nat} {H' : Hp} {o : HO} {env : List Sl} {σ : L2.St} {R : List D → Pl → List D → Prop}
    (z : Ex B1 B' ∧ Ex B' H' ∧ Ex B B' ∧ ∃ sti acc zs rest, Rel K p sti B' M F env σ H' ∧ H' Dl = some (.lst acc) ∧ RpA K B' acc zs ∧ Fr B' M F p Dl ∧ zs.length ≤ n ∧ R zs sti rest) (hq : H' q = none) :
    Ex B1 (upd B' q o) ∧ Ex (upd B' q o) (upd H' q o) ∧ Ex B (upd B' q o) ∧ ∃ sti acc zs rest, Rel K p sti (upd B' q o) M F env σ (upd H' q o) ∧ (upd H' q o) Dl = some (.lst acc) ∧ RpA K (upd B' q o) acc zs ∧ Fr (upd B' q o) M F p Dl ∧ zs.length ≤ n ∧ R zs sti rest := by
  obtain ⟨x1, x2, x3, sti, acc, zs, rest, r, ha, ra, f, hz, hr⟩ := z
  have nb : B' q = none := x2.free hq
  have hd : Dl ≠ q := ne_of_none ha hq
  exact ⟨x1.trans (Ex.new nb), x2.up, x3.trans (Ex.new nb), sti, acc, zs, rest, r.new hq, by rw [upd_ne hd]; exact ha, ra.mono (Ex.new nb), ⟨by rw [upd_ne hd]; exact f.b, f.m, f.f, f.p⟩, hz, hr⟩
theorem lc_read {K : PySem.W.Frag} {cl : Cl} {j : Nat} {it : IT} {cs : IEs} {ie : IE} {σ : L2.St} {H : Hp} {Q : VK} (q : Tf K cl p (.lc j it cs ie) σ H Q) : tLc (Ti K cl p it) (gName j) (Ts K cl p cs) (Tx K cl p ie) [j] σ H Q := by
  obtain ⟨st, B, M, F, env, ds, st', r, he, k⟩ := q
  obtain ⟨dz, st1, ys, e1, hl, e2, e3⟩ := ev_lc he
  cases e3
  refine walk_lc r e1 (fun B1 Dl n B' H' => Ex B1 B' ∧ Ex B' H' ∧ Ex B B' ∧ ∃ sti acc zs rest, Rel K p sti B' M F env σ H' ∧ H' Dl = some (.lst acc) ∧ RpA K B' acc zs ∧ Fr B' M F p Dl ∧ zs.length ≤ n ∧ lcG (lcF cl j cs ie env) (dz.drop n) sti = some (rest, st') ∧ zs ++ rest = ds)
    (fun B1 H1 Dl x1 r1 hD => ?_) (fun B1 Dl n B' H' q => ⟨q.1, q.2.1⟩) (fun B1 Dl n B' H' q o z hq => lcP_new (R := fun zs sti rest => lcG (lcF cl j cs ie env) (dz.drop n) sti = some (rest, st') ∧ zs ++ rest = ds) z hq) (fun B1 Dl n d v B' H' x1 hd pv q => ?_) (fun B1 Dl B' H' x1 q => ?_)
  · have f := r1.fr hD
    exact ⟨Ex.refl B1, (r1.put f (.inl hD)).bs.b, x1, st1, [], [], ds, r1.put f (.inl hD), upd_same, .nil, f, Nat.le_refl _, e2, rfl⟩
  · obtain ⟨x2, x3, x4, sti, acc, zs, rest, r2, hacc, racc, f, hz, e4, e5⟩ := q
    have hdr : dz.drop n = d :: dz.drop (n + 1) := List.drop_eq_getElem_cons (by
        exact (List.getElem?_eq_some_iff.mp hd).1) |>.trans (by rw [(List.getElem?_eq_some_iff.mp hd).2])
    have hn : n < dz.length := (List.getElem?_eq_some_iff.mp hd).1
    rw [hdr] at e4
    have r3 := (r2.take f hacc).set pv j
    have key : ∀ (b : Bool) (st2 : Pl), et cl cs (env.set j (.im d)) sti = some (b, st2) → (b = false → lcG (lcF cl j cs ie env) (dz.drop (n + 1)) st2 = some (rest, st')) →
        (b = true → ∃ y st3 zs', ev cl ie (env.set j (.im d)) st2 = some (y, st3) ∧ lcG (lcF cl j cs ie env) (dz.drop (n + 1)) st3 = some (zs', st') ∧ rest = y :: zs') → Ts K cl p cs (σ.set j (some v)) H' fun b H3 => if b = true then Tx K cl p ie (σ.set j (some v)) H3 fun y H4 => ∃ acc, H4 Dl = some (.lst acc) ∧ acc.length < sizeLine ∧ ∃ B2, (Ex B1 B2 ∧ Ex B2 (upd H4 Dl (.lst (acc ++ [y]))) ∧ Ex B B2 ∧ ∃ sti acc' zs rest, Rel K p sti B2 M F env σ (upd H4 Dl (.lst (acc ++ [y]))) ∧ (upd H4 Dl (.lst (acc ++ [y]))) Dl = some (.lst acc') ∧ RpA K B2 acc' zs ∧ Fr B2 M F p Dl ∧ zs.length ≤ n + 1 ∧ lcG (lcF cl j cs ie env) (dz.drop (n + 1)) sti = some (rest, st') ∧ zs ++ rest = ds) else ∃ B2, (Ex B1 B2 ∧ Ex B2 H3 ∧ Ex B B2 ∧ ∃ sti acc zs rest, Rel K p sti B2 M F env σ H3 ∧ H3 Dl = some (.lst acc) ∧ RpA K B2 acc zs ∧ Fr B2 M F p Dl ∧ zs.length ≤ n + 1 ∧ lcG (lcF cl j cs ie env) (dz.drop (n + 1)) sti = some (rest, st') ∧ zs ++ rest = ds) := fun b st2 e6 h0 h1 => by
      refine ⟨sti, B', upd M Dl (.lst acc), F, env.set j (.im d), b, st2, r3, e6, fun B3 H3 x5 r4 => ?_⟩
      cases b with
      | false =>
        refine iteF ⟨B3, x2.trans x5, r4.bs.b, x4.trans x5, st2, acc, zs, rest, r2.rest f.m x5 r4, (Rel.restFr f r4).2, racc.mono x5, (Rel.restFr f r4).1, by omega, h0 rfl, e5⟩
      | true =>
        obtain ⟨y, st3, zs', e7, e8, e9⟩ := h1 rfl
        refine iteT ⟨st2, B3, upd M Dl (.lst acc), F, env.set j (.im d), y, st3, r4, e7, fun w B4 H4 x6 r5 pw => ?_⟩
        have f4 := Rel.restFr f r5
        have r6 := (r2.rest f.m (x5.trans x6) r5).put (o := .lst (acc ++ [w])) f4.1 (.inr ⟨_, f4.2⟩)
        refine ⟨acc, f4.2, most_lt (by rw [racc.length]; omega), B4, (x2.trans x5).trans x6, r6.bs.b, (x4.trans x5).trans x6, st3, acc ++ [w], zs ++ [y], zs', r6, upd_same, (racc.mono (x5.trans x6)).append (.one pw), f4.1, by rw [List.length_append]; show zs.length + 1 ≤ n + 1; omega, e8, by rw [List.append_assoc, ← e5, e9]; rfl⟩
    rcases lcG_cons e4 with ⟨st3, e6, e7⟩ | ⟨y, st3, zs', e6, e7, e8⟩
    · unfold lcF at e6
      split at e6
      · split at e6 <;> cases e6
      · rename_i st2 e9
        cases e6
        exact key false _ e9 (fun _ => e7) (fun z => nomatch z)
      · cases e6
    · unfold lcF at e6
      split at e6
      · rename_i st2 e9
        split at e6
        · rename_i y2 st5 e10
          cases e6
          exact key true _ e9 (fun z => nomatch z) (fun _ => ⟨_, _, _, e10, e7, e8⟩)
        · cases e6
      · cases e6
      · cases e6
  · obtain ⟨x2, x3, x4, sti, acc, zs, rest, r2, hacc, racc, f, hz, e4, e5⟩ := q
    rw [List.drop_length] at e4
    unfold lcG at e4
    cases e4
    rw [List.append_nil] at e5
    subst e5
    exact k Dl acc B' H' x4 f.b f.m f.f f.p hacc racc r2
theorem lc_sf {elt iter : Expr} {ifs : List Expr} {scope : Scope} {x : Str} {px : Pos} {it : IT} {cs : IEs} {ie : IE} (j : Nat) (hi : SI Γ iter it) (hc : STs (Γ.blk scope) ifs cs) (he : SE (Γ.blk scope) elt ie) (hh : Γ.hot = false := by rfl)
    (hb : blkC Γ.N Γ.sc scope [(x, j)] = true := by rfl) (hj : Γ.N[j]? = some x := by rfl) (hlx : LcN scope Γ.sc x := by first | exact Or.inl rfl | exact Or.inr ⟨rfl, rfl⟩)
    (hs : ∀ env y, foldedSetIterable iter env y = pure y := by intro _ _; rfl) : SF Γ (.ListComp elt [⟨.Name x px, iter, ifs, 0⟩] scope pos) (.lc j it cs ie) := fun X p o => by
  refine PE_weak (pe_lc (own := [(x, j)]) (g := gName j) (tt := Ts Γ.K Γ.cl p cs) (te := Tx Γ.K Γ.cl p ie) (o.calm hh) (by rw [o.N]; exact o.nd) (hi X p _ o) (blkOk_by (by rw [o.N, o.sc]; exact hb))
    (fun s H C cl fp => ?_) (fun s H C cl fp => hc _ p (o.blk hh scope s H C cl fp)) (fun s H C cl fp => he _ p (o.blk hh scope s H C cl fp)) (hs _)) fun σ H Q q => ?_
  · have ob := o.blk hh scope s H C cl fp
    refine pg_name (show X.N.Nodup by rw [o.N]; exact o.nd) (show X.N[j]? = some x by rw [o.N]; exact hj) (show Loc _ x from hlx.loc ob.sc) ?_
    exact hlx.fn ob.sc
  · exact lc_read q
theorem lc_se {elt iter : Expr} {ifs : List Expr} {scope : Scope} {x : Str} {px : Pos} {it : IT} {cs : IEs} {ie : IE} (j : Nat) (hi : SI Γ iter it) (hc : STs (Γ.blk scope) ifs cs) (he : SE (Γ.blk scope) elt ie) (hh : Γ.hot = false := by rfl)
    (hb : blkC Γ.N Γ.sc scope [(x, j)] = true := by rfl) (hj : Γ.N[j]? = some x := by rfl) (hlx : LcN scope Γ.sc x := by first | exact Or.inl rfl | exact Or.inr ⟨rfl, rfl⟩)
    (hs : ∀ env y, foldedSetIterable iter env y = pure y := by intro _ _; rfl) : SE Γ (.ListComp elt [⟨.Name x px, iter, ifs, 0⟩] scope pos) (.lc j it cs ie) := (lc_sf j hi hc he hh hb hj hlx hs).se fun _ _ _ _ _ h => by
  obtain ⟨_, _, ys, _, _, _, e⟩ := ev_lc h
  exact ⟨ys, e⟩
end
end Ip

set_option Elab.async false
set_option linter.all false
set_option maxRecDepth 100000
set_option maxHeartbeats 4000000
namespace Ip
open PySem L2
section
variable {K : PySem.W.Frag} {p : Pa} {st st' : Pl} {B B' M F : Hp} {env env' : List Sl} {σ σ' : L2.St} {H H' : Hp} {a : Addr} {o : HO}
/-- a new list among the own ones, kept by a name -/
theorem Rel.setOw (r : Rel K p st B M F env σ H) {xs : List V} {ds : List D} (f : Fr B M F p a) (ha : H a = some (.lst xs)) (rx : RpA K B xs ds) (j : Nat) (hio : ∀ c, p.io ≠ some (j, c)) : Rel K p st B (upd M a (.lst xs)) F (env.set j (.ow ds)) (σ.set j (some (.ref a))) H where
  bs := r.bs
  m := (r.take f ha).m
  md := (r.take f ha).md
  mc := (r.take f ha).mc
  mt := (r.take f ha).mt
  en := {
    len := by rw [List.length_set, List.length_set]; exact r.en.len
    at_ := fun i s hi => by
      by_cases e : j = i
      · subst e
        have hl : j < env.length := by
          have := (List.getElem?_eq_some_iff.mp hi).1
          rw [List.length_set] at this
          exact this
        rw [List.getElem?_set_self hl] at hi
        cases hi
        exact ⟨some (.ref a), List.getElem?_set_self (by rw [← r.en.len]; exact hl), xs, upd_same, rx⟩
      · rw [List.getElem?_set_ne e] at hi
        obtain ⟨w, h1, h2⟩ := r.en.at_ i s hi
        exact ⟨w, by rw [List.getElem?_set_ne e]; exact h1, h2.up f.m⟩
    ap := fun i k es fs b hi hk si sk => by
      have old : ∀ {i : Nat} {es : List D}, j ≠ i → (env.set j (.ow ds))[i]? = some (.ow es) → (σ.set j (some (.ref a)))[i]? = some (some (.ref b)) → b ≠ a := fun {i es} e hi si => by
        rw [List.getElem?_set_ne e] at hi si
        obtain ⟨w, h1, h2⟩ := r.en.at_ i _ hi
        rw [si] at h1
        cases h1
        obtain ⟨zs, h3, _⟩ := h2
        exact ne_of_none h3 f.m
      have new : ∀ {i : Nat}, j = i → (σ.set j (some (.ref a)))[i]? = some (some (.ref b)) → b = a := fun {i} e si => by
        subst e
        have hl : j < σ.length := by
          have := (List.getElem?_eq_some_iff.mp si).1
          rw [List.length_set] at this
          exact this
        rw [List.getElem?_set_self hl] at si
        cases si
        rfl
      by_cases e1 : j = i
      · by_cases e2 : j = k
        · rw [← e1, ← e2]
        · exact absurd (new e1 si) (old e2 hk sk)
      · by_cases e2 : j = k
        · exact absurd (new e2 sk) (old e1 hi si)
        · rw [List.getElem?_set_ne e1] at hi si
          rw [List.getElem?_set_ne e2] at hk sk
          exact r.en.ap i k es fs b hi hk si sk
    io := fun i c es hp hi => by
      by_cases e : j = i
      · subst e
        exact absurd hp (hio c)
      · rw [List.getElem?_set_ne e] at hi ⊢
        exact r.en.io i c es hp hi }
/-- an own list grows -/
theorem Rel.grow (r : Rel K p st B M F env σ H) {i : Nat} {xs ys : List V} {ds es : List D} (he : env[i]? = some (.ow ds)) (hs : σ[i]? = some (some (.ref a))) (hm : M a = some (.lst xs)) (ry : RpA K B ys es) :
    Rel K p st B (upd M a (.lst ys)) F (env.set i (.ow es)) σ (upd H a (.lst ys)) where
  bs := by
    obtain ⟨h1, h2, h3⟩ := r.md a _ hm
    have hc : ∀ k c, p.ca k = some c → c ≠ a := fun k c hk e => by
      have := r.mc k c hk
      rw [e, hm] at this
      cases this
    refine ⟨r.bs.b.right h1, r.bs.f.right h2, r.bs.d, r.bs.pf, r.bs.pb, ?_, r.bs.ce.up (fun k c hk => ⟨(r.bs.ce.b k c hk).1, (r.bs.ce.b k c hk).2.1⟩) (fun k c hk => by rw [upd_ne (hc k c hk)]) r.bs.ce.tn fun z => tabs_lst z (r.m _ _ hm)⟩
    obtain ⟨h4, h5⟩ := r.bs.pl
    exact ⟨by rw [upd_ne (fun e => h3 e.symm)]; exact h4, h5⟩
  m := r.m.up
  md := fun b u h => by
    by_cases hb : b = a
    · subst hb
      exact r.md b _ hm
    · rw [upd_ne hb] at h
      exact r.md b u h
  mc := fun k c hk => by
    rw [upd_ne (fun e => by
      have := r.mc k c hk
      rw [e, hm] at this
      cases this)]
    exact r.mc k c hk
  mt := fun q hq => by
    rw [upd_ne (r.mtn hm q hq)]
    exact r.mt q hq
  en := {
    len := by rw [List.length_set]; exact r.en.len
    at_ := fun k s hk => by
      by_cases e : i = k
      · subst e
        have hl : i < env.length := (List.getElem?_eq_some_iff.mp he).1
        rw [List.getElem?_set_self hl] at hk
        cases hk
        exact ⟨_, hs, ys, upd_same, ry⟩
      · rw [List.getElem?_set_ne e] at hk
        obtain ⟨w, h1, h2⟩ := r.en.at_ k s hk
        refine ⟨w, h1, ?_⟩
        cases s with
        | ow fs =>
          cases w with
          | none => exact h2
          | some v =>
            cases v with
            | ref b =>
              obtain ⟨zs, h3, h4⟩ := h2
              have hba : b ≠ a := fun z => by
                subst z
                exact e (r.en.ap i k ds fs b he hk hs h1)
              exact ⟨zs, by rw [upd_ne hba]; exact h3, h4⟩
            | _ => exact h2
        | no => exact h2
        | im d =>
          cases w with
          | none => exact h2
          | some v => exact h2
        | pl =>
          cases w with
          | none => exact h2
          | some v => cases v <;> exact h2
        | ce k =>
          cases w with
          | none => exact h2
          | some v => cases v <;> exact h2
        | er c d => exact h2
    ap := fun k l es' fs b hk hl sk sl => by
      have old : ∀ {k : Nat} {es' : List D}, (env.set i (.ow es))[k]? = some (.ow es') → ∃ fs, env[k]? = some (.ow fs) := fun {k es'} hk => by
        by_cases e : i = k
        · subst e
          exact ⟨ds, he⟩
        · rw [List.getElem?_set_ne e] at hk
          exact ⟨_, hk⟩
      obtain ⟨f1, h1⟩ := old hk
      obtain ⟨f2, h2⟩ := old hl
      exact r.en.ap k l f1 f2 b h1 h2 sk sl
    io := fun k c es' hp hk => by
      by_cases e : i = k
      · subst e
        exact r.en.io i c ds hp he
      · rw [List.getElem?_set_ne e] at hk
        exact r.en.io k c es' hp hk }
/-- an own list becomes known for good -/
theorem Rel.freeze (r : Rel K p st B M F env σ H) (i : Nat) : ∃ B' M', Ex B B' ∧ (∀ b u, M b = some u → M' b = some u ∨ B' b = some u) ∧ Rel K p st B' M' F (env.modify i frzS) σ H := by
  cases he : env[i]? with
  | none =>
    have e : env.modify i frzS = env := by
      apply List.ext_getElem?
      intro k
      rw [List.getElem?_modify]
      by_cases e : i = k
      · subst e
        rw [he]
        simp
      · simp [e]
    rw [e]
    exact ⟨B, M, Ex.refl B, fun _ _ h => .inl h, r⟩
  | some s =>
    have same : (∀ ds, s ≠ .ow ds) → env.modify i frzS = env := fun h => by
      apply List.ext_getElem?
      intro k
      rw [List.getElem?_modify]
      by_cases e : i = k
      · subst e
        rw [he]
        cases s with
        | ow ds => exact absurd rfl (h ds)
        | _ => simp [frzS]
      · simp [e]
    cases s with
    | ow ds =>
      obtain ⟨w, h1, h2⟩ := r.en.at_ i _ he
      cases w with
      | none => exact h2.elim
      | some v =>
        cases v with
        | ref a =>
          obtain ⟨xs, h3, h4⟩ := h2
          obtain ⟨g1, g2, g3⟩ := r.md a _ h3
          have x : Ex B (upd B a (.lst xs)) := Ex.new g1
          have hc : ∀ k c, p.ca k = some c → c ≠ a := fun k c hk e => by
            have := r.mc k c hk
            rw [e, h3] at this
            cases this
          refine ⟨upd B a (.lst xs), fun b => if b = a then none else M b, x, fun b u h => ?_, ?_, ?_, ?_, fun k c hk => by simp only [if_neg (hc k c hk)]; exact r.mc k c hk, fun q hq => by simp only [if_neg (r.mtn h3 q hq)]; exact r.mt q hq, ?_⟩
          · by_cases hb : b = a
            · subst hb
              rw [h3] at h
              cases h
              exact .inr upd_same
            · exact .inl (by simp only [if_neg hb]; exact h)
          · refine ⟨fun c u e => ?_, r.bs.f, fun c u e => ?_, r.bs.pf, ?_, ?_, r.bs.ce.up (fun k c hk => ⟨by rw [upd_ne (hc k c hk)]; exact (r.bs.ce.b k c hk).1, (r.bs.ce.b k c hk).2.1⟩) (fun _ _ _ => rfl) (fun q hq => ⟨by rw [upd_ne (r.mtn h3 q hq)]; exact (r.bs.ce.tn q hq).1, (r.bs.ce.tn q hq).2⟩) fun z => z⟩
            · by_cases hc : c = a
              · subst hc
                rw [upd_same] at e
                rw [← e]
                exact r.m _ _ h3
              · rw [upd_ne hc] at e
                exact r.bs.b c u e
            · rw [upd_ne (ne_of_none e g2)]
              exact r.bs.d c u e
            · rw [upd_ne (fun e => g3 e.symm)]
              exact r.bs.pb
            · obtain ⟨q1, q2⟩ := r.bs.pl
              exact ⟨q1, x _ _ q2⟩
          · intro b u h
            by_cases hb : b = a
            · simp [hb] at h
            · simp only [if_neg hb] at h
              exact r.m b u h
          · intro b u h
            by_cases hb : b = a
            · simp [hb] at h
            · simp only [if_neg hb] at h
              rw [upd_ne hb]
              exact r.md b u h
          · refine ⟨by rw [List.length_modify]; exact r.en.len, fun k s hk => ?_, fun k l es fs b hk hl sk sl => ?_, fun k c es hp hk => r.en.io k c es hp (by
                rw [List.getElem?_modify] at hk
                by_cases e : i = k
                · subst e
                  rw [he] at hk
                  simp [frzS] at hk
                · simpa [e] using hk)⟩
            · rw [List.getElem?_modify] at hk
              by_cases e : i = k
              · subst e
                rw [he] at hk
                simp [frzS] at hk
                subst hk
                exact ⟨_, h1, .lst upd_same (h4.mono x)⟩
              · simp [e] at hk
                obtain ⟨w, q1, q2⟩ := r.en.at_ k s hk
                refine ⟨w, q1, ?_⟩
                cases s with
                | ow fs =>
                  cases w with
                  | none => exact q2
                  | some v =>
                    cases v with
                    | ref b =>
                      obtain ⟨zs, q3, q4⟩ := q2
                      have hba : b ≠ a := fun z => by
                        subst z
                        exact e (r.en.ap i k ds fs b he hk h1 q1)
                      exact ⟨zs, by simp only [if_neg hba]; exact q3, q4.mono x⟩
                    | _ => exact q2
                | no => exact q2
                | im d =>
                  cases w with
                  | none => exact q2
                  | some v => exact Rp.mono x q2
                | pl =>
                  cases w with
                  | none => exact q2
                  | some v => cases v <;> exact q2
                | ce k =>
                  cases w with
                  | none => exact q2
                  | some v => cases v <;> exact q2
                | er c d =>
                  obtain ⟨a1, dd, f, u, z1, z2, z3, z4⟩ := q2
                  exact ⟨a1, dd, f, u, z1, z2, x _ _ z3, z4.mono x⟩
            · have old : ∀ {k : Nat} {es : List D}, (env.modify i frzS)[k]? = some (.ow es) → env[k]? = some (.ow es) := fun {k es} hk => by
                rw [List.getElem?_modify] at hk
                by_cases e : i = k
                · subst e
                  rw [he] at hk
                  simp [frzS] at hk
                · simpa [e] using hk
              exact r.en.ap k l es fs b (old hk) (old hl) sk sl
        | _ => exact h2.elim
    | no => rw [same (fun _ z => nomatch z)]; exact ⟨B, M, Ex.refl B, fun _ _ h => .inl h, r⟩
    | im d => rw [same (fun _ z => nomatch z)]; exact ⟨B, M, Ex.refl B, fun _ _ h => .inl h, r⟩
    | er c d => rw [same (fun _ z => nomatch z)]; exact ⟨B, M, Ex.refl B, fun _ _ h => .inl h, r⟩
    | pl => rw [same (fun _ z => nomatch z)]; exact ⟨B, M, Ex.refl B, fun _ _ h => .inl h, r⟩
    | ce k => rw [same (fun _ z => nomatch z)]; exact ⟨B, M, Ex.refl B, fun _ _ h => .inl h, r⟩
theorem Rel.freezeAll : ∀ (is : List Nat) {B M : Hp} {env : List Sl}, Rel K p st B M F env σ H → ∃ B' M', Ex B B' ∧ (∀ b u, M b = some u → M' b = some u ∨ B' b = some u) ∧ Rel K p st B' M' F (frzE env is) σ H
  | [], B, M, env, r => ⟨B, M, Ex.refl B, fun _ _ h => .inl h, r⟩
  | i :: is, B, M, env, r => by
    obtain ⟨B1, M1, x1, y1, r1⟩ := r.freeze i
    obtain ⟨B2, M2, x2, y2, r2⟩ := Rel.freezeAll is r1
    refine ⟨B2, M2, x1.trans x2, fun b u h => ?_, r2⟩
    rcases y1 b u h with h | h
    · exact y2 b u h
    · exact .inr (x2 b u h)
/-- lists that were lent out come back, if nothing holds them -/
theorem lent_se {Γ : Gam} {e : Expr} {i : IE} (is : List Nat) (h : SE Γ e i) : SE Γ e (.lent is i) := fun X p o => PE_weak (h X p o) fun σ H Q q => by
  obtain ⟨st, B, M, F, env, d, st', r, he, kk⟩ := q
  obtain ⟨B1, M1, x1, y1, r1⟩ := r.freezeAll is
  unfold ev at he
  split at he
  · rename_i y st1 e1
    split at he
    · rename_i hf
      cases he
      refine ⟨st, B1, M1, F, _, d, st', r1, e1, fun v B' H' x r' pv => ?_⟩
      have x' : Ex B (fun b => match M b with | some _ => none | none => B' b) := fun b u hb => by
        have hm : M b = none := by
          cases hm : M b with
          | none => rfl
          | some w =>
            rw [(r.md b w hm).1] at hb
            cases hb
        show (match M b with | some _ => none | none => B' b) = _
        rw [hm]
        exact x b u (x1 b u hb)
      have le : ∀ b u, (match M b with | some _ => none | none => B' b) = some u → B' b = some u := fun b u hb => by
        cases hm : M b with
        | none =>
          rw [hm] at hb
          exact hb
        | some w =>
          rw [hm] at hb
          cases hb
      refine kk v _ H' x' ?_ ?_
      · refine ⟨⟨fun b u hb => r'.bs.b b u (le b u hb), r'.bs.f, fun b u hb => ?_, r'.bs.pf, ?_, ⟨r'.bs.pl.1, ?_⟩, r'.bs.ce.up (fun k c hk => ⟨by rw [r.mc k c hk]; exact (r'.bs.ce.b k c hk).1, (r'.bs.ce.b k c hk).2.1⟩) (fun _ _ _ => rfl) (fun q hq => ⟨by rw [r.mt q hq]; exact (r'.bs.ce.tn q hq).1, (r'.bs.ce.tn q hq).2⟩) fun z => z⟩, fun b u hb => ?_, fun b u hb => ⟨?_, (r.md b u hb).2⟩, r.mc, r.mt, r.en.mono x'⟩
        · show (match M b with | some _ => none | none => B' b) = none
          have := r'.bs.d b u hb
          cases M b with
          | none => exact this
          | some w => rfl
        · show (match M p with | some _ => none | none => B' p) = none
          have := r'.bs.pb
          cases M p with
          | none => exact this
          | some w => rfl
        · have hq : M p.q = none := by
            cases hm : M p.q with
            | none => rfl
            | some w =>
              have h1 := r.bs.pl.2
              rw [(r.md _ w hm).1] at h1
              cases h1
          show (match M p.q with | some _ => none | none => B' p.q) = _
          rw [hq]
          exact r'.bs.pl.2
        · rcases y1 b u hb with h1 | h1
          · exact r'.m b u h1
          · exact r'.bs.b b u (x b u h1)
        · show (match M b with | some _ => none | none => B' b) = none
          rw [hb]
      · cases d with
        | none => cases pv; exact .non
        | bool b => cases pv; exact .bl b
        | int i => cases pv; exact .int i
        | str s => cases pv; exact .str s
        | _ => exact absurd (show false = true from hf) (by decide)
    · cases he
  · cases he
end
end Ip

set_option Elab.async false
set_option linter.all false
set_option maxRecDepth 100000
set_option maxHeartbeats 4000000
/-! x.extend(t), t a tuple of any make. -/
namespace Ip
open PySem PySem.Spec PyProof.Rows L2
theorem ext_tupW (la : Addr) (xs : Array Value) (m : Nat) (tb : Addr) (ys : Array Value) (m2 : Nat) (dd : Option Addr) (sl : Array (Option Value)) (k0 : ¬(!xs.isEmpty && Builtin.List.listTooLong (xs.size + ys.size)) = true) (k1 : xs.size ≤ sizeLine) (k2 : xs.size + ys.size ≤ sizeLine + 1) :
    Meets (Builtin.«list.extend» ⟨[.ref la, .ref tb], []⟩) (fun _ R s => s.heap.get? la = some { cls := .type "list", dict := none, data := .seq xs m, slots := #[] } ∧
      s.heap.get? tb = some { cls := .type "tuple", dict := dd, data := .seq ys m2, slots := sl } ∧ R (.ok (.ret Value.none)) { s with heap := s.heap.update la (Obj.mapSeq fun z => z ++ ys), toks := s.toks }) :=
  .of_wp fun _ _ _ _ z hz => by
    obtain ⟨_, _, _, _, _⟩ := z
    obtain ⟨q1, q2, q3⟩ := hz
    have g1 := AutoSeq1.idx_int
    have g2 := AutoSeq1.sub_tuple_tuple
    have g3 := AutoSeq1.sub_list_list
    have g4 := AutoSeq1.sub_tuple_list
    have g5 := AutoSeq1.sub_list_tuple
    have k3 : (xs ++ ys).size ≤ sizeLine + 1 := by
      rw [Array.size_append]
      exact k2
    wp_walk using (wpAny_updateSeq q1 rfl (hz := k1) (_hz' := k3)), wpAny_loadPart' q1, wpAny_loadPart' q2
    exact ⟨_, rfl, q3⟩
def rExtT (K : PySem.W.Frag) : V → List V → Hp → VK → Prop := fun x vs H Q => ∃ (l b : Addr) (xs zs : List V), x = .ref l ∧ vs = [.ref b] ∧ H l = some (.lst xs) ∧ SqT K H b zs ∧ xs.length + zs.length ≤ most ∧ Q .non (upd H l (.lst (xs ++ zs)))
section
variable {X : Cx}
theorem mt_extT : MtM X "list.extend" (rExtT X.K) := by
  intro pins s σ H x vs v us Q I rx rv h
  obtain ⟨l, b, xs, zs, rfl, rfl, hH, hB, hz, q⟩ := h
  cases rx
  obtain ⟨u, rfl, ru⟩ := rv.one
  cases ru
  obtain ⟨z, its, n, r, hl, e⟩ := I.lstM hH
  obtain ⟨its2, r2, ⟨⟨cls, dd, data, sl⟩, ho, hc, n2, hd⟩, hs⟩ := I.tuple hB
  simp only at hc hd
  subst hc hd
  have hl2 : its2.length = zs.length := r2.length.symm
  have hm : xs.length + zs.length ≤ sizeLine := most_line hz
  have hsz : its.toArray.size + its2.toArray.size ≤ sizeLine := by
    rw [List.size_toArray, List.size_toArray, ← hl, hl2]
    exact hm
  have hlong : ¬ (!its.toArray.isEmpty && Builtin.List.listTooLong (its.toArray.size + its2.toArray.size)) = true := by
    rw [notLongL hsz, Bool.and_false]
    exact Bool.false_ne_true
  refine call_meets PySem.F.slot_list_extend ⟨_, e, rfl⟩ PySem.F.entry_list_extend (PySem.F.args_list_extend_2 _ _)
    (ext_tupW l its.toArray n b its2.toArray n2 dd sl hlong (by omega) (by omega)) ⟨e, ho, ?_⟩
  refine ⟨.non, _, I.lset (its' := its ++ its2) hH e (by simp) (r.append r2) ?_, rfl, q⟩
  rw [List.length_append]
  omega
theorem MtM_or {id : String} {r1 r2 : V → List V → Hp → VK → Prop} (h1 : MtM X id r1) (h2 : MtM X id r2) : MtM X id (fun x vs H Q => r1 x vs H Q ∨ r2 x vs H Q) := fun pins s σ H x vs v us Q I rx rv q => by
  rcases q with q | q
  · exact h1 pins s σ H x vs v us Q I rx rv q
  · exact h2 pins s σ H x vs v us Q I rx rv q
end
end Ip

set_option Elab.async false
set_option linter.all false
set_option maxRecDepth 100000
set_option maxHeartbeats 4000000
namespace Ip
open PySem L2
structure Oks (Γ : Gam) (X : Cx) (p : Pa) : Prop extends Okx Γ X p where
  own : PassesOwn (model X.prog X.w) X.A X.env X.xe
  stk : X.stack = X.env :: X.outer
  frm : X.env.frame = some X.env.locals
  fnx : ∀ x, X.fn x = true
  io : p.io.map Prod.fst = Γ.io
  fr : p.fr = Γ.fr
  fi : Γ.hot = false → ∀ f ∈ Γ.fi, ∃ fa fd ps k, FnOk X.prog X.w X.K X.mg X.base (L2N.CX X.prog X.w) k fa fd ps (spI Γ.K Γ.cl f) ∧ X.mg f = some (.ref fa) ∧ PySem.W.keepIn X.K (.ref fa) = true ∧ Binds X.K fd ps [] ∧ Room k X.A
  ff : Γ.hot = false → ∀ f ∈ Γ.ff, ∃ fa fd ps k, FnOk X.prog X.w X.K X.mg X.base (L2N.CX X.prog X.w) k fa fd ps (spR Γ.K Γ.cl f) ∧ X.mg f = some (.ref fa) ∧ PySem.W.keepIn X.K (.ref fa) = true ∧ Binds X.K fd ps [] ∧ Room k X.A
theorem Oks.noIo {Γ : Gam} {X : Cx} {p : Pa} (o : Oks Γ X p) {j : Nat} (h : (Γ.io == some j) = false) : ∀ c, p.io ≠ some (j, c) := fun c e => by
  have z := o.io
  rw [e] at z
  rw [← z] at h
  simp at h
/-- what is wanted behind a statement, by what it came to -/
def OutK (K : PySem.W.Frag) (p : Pa) (B F : Hp) (D : Ends) : Out → Prop
  | .nx env st => ∀ B' M σ H, Ex B B' → Rel K p st B' M F env σ H → D.nx σ H
  | .rt d st => ∀ v B' H, Ex B B' → Bs p st B' F H → RtV K p B' F H v d → D.rt v H
  | .bk env st => ∀ B' M σ H, Ex B B' → Rel K p st B' M F env σ H → D.bk σ H
  | .ct env st => ∀ B' M σ H, Ex B B' → Rel K p st B' M F env σ H → D.ct σ H
theorem OutK.mono {K : PySem.W.Frag} {p : Pa} {B B' F : Hp} {D : Ends} (x : Ex B B') : ∀ {o : Out}, OutK K p B F D o → OutK K p B' F D o
  | .nx _ _, h => fun B2 M σ H x2 r => h B2 M σ H (x.trans x2) r
  | .rt _ _, h => fun v B2 H x2 r pv => h v B2 H (x.trans x2) r pv
  | .bk _ _, h => fun B2 M σ H x2 r => h B2 M σ H (x.trans x2) r
  | .ct _ _, h => fun B2 M σ H x2 r => h B2 M σ H (x.trans x2) r
def TS1 (K : PySem.W.Frag) (cl : Cl) (p : Pa) (s : IS) : TS := fun D σ H => ∃ st B M F env o, Rel K p st B M F env σ H ∧ evS cl s env st = some o ∧ OutK K p B F D o
def TSs (K : PySem.W.Frag) (cl : Cl) (p : Pa) (s : ISs) : TS := fun D σ H => ∃ st B M F env o, Rel K p st B M F env σ H ∧ evSs cl s env st = some o ∧ OutK K p B F D o
def SS (Γ : Gam) (s : Stmt) (i : IS) : Prop := ∀ X p, Oks Γ X p → PS X s (TS1 Γ.K Γ.cl p i)
def SSs (Γ : Gam) (s : List Stmt) (i : ISs) : Prop := ∀ X p, Oks Γ X p → PSs X s (TSs Γ.K Γ.cl p i)
section
variable {Γ : Gam} {e a b c : Expr} {es rest : List Expr} {ia ib ic i : IE} {ies : IEs} {pos p0 p1 p2 : Pos} {x : Str} {s : Stmt} {ss : List Stmt} {is : IS} {iss : ISs}
theorem sss_nil : SSs Γ [] .nil := fun X p o => PSs_weak pss_nil fun D σ H q => by
  obtain ⟨st, B, M, F, env, out, r, he, k⟩ := q
  unfold evSs at he
  cases he
  exact k B M σ H (Ex.refl B) r
theorem sss_cons (h : SS Γ s is) (hr : SSs Γ ss iss) : SSs Γ (s :: ss) (.cons is iss) := fun X p o => PSs_weak (pss_cons (h X p o) (hr X p o)) fun D σ H q => by
  obtain ⟨st, B, M, F, env, out, r, he, k⟩ := q
  unfold evSs at he
  split at he
  · rename_i env1 st1 e1
    exact ⟨st, B, M, F, env, _, r, e1, fun B' M' σ' H' x r' => ⟨st1, B', M', F, env1, out, r', he, k.mono x⟩⟩
  · rename_i o1 hn e1
    cases he
    refine ⟨st, B, M, F, env, _, r, e1, ?_⟩
    cases out with
    | nx env1 st1 => exact (hn env1 st1 rfl).elim
    | rt d st1 => exact k
    | bk env1 st1 => exact k
    | ct env1 st1 => exact k
  · cases he
theorem ss_set (j : Nat) (h : SE Γ e i) (hN : Γ.N[j]? = some x := by rfl) (hl : Loc Γ.sc x := by first | exact Or.inl rfl | exact Or.inr rfl) (hs : ∀ env, swapsWith e (some (.Name x p0)) pos.line env = pure false := by intro _; rfl) : SS Γ (.Assign [.Name x p0] e pos) (.set j i) := fun X p o =>
  PS_weak (ps_set (i := j) (by rw [o.N]; exact o.nd) (by rw [o.N]; exact hN) (by rw [o.sc]; exact hl) (h X p o.toOkx) (hs _) (.inl (o.fnx x))) fun D σ H q => by
    obtain ⟨st, B, M, F, env, out, r, he, k⟩ := q
    unfold evS at he
    split at he
    · rename_i d st1 e1
      cases he
      exact ⟨st, B, M, F, env, d, st1, r, e1, fun v B' H' x r' pv => k B' M _ H' x (r'.set pv j)⟩
    · cases he
theorem ss_own (j : Nat) (h : SF Γ e i) (hio : (Γ.io == some j) = false := by rfl) (hN : Γ.N[j]? = some x := by rfl) (hl : Loc Γ.sc x := by first | exact Or.inl rfl | exact Or.inr rfl) (hs : ∀ env, swapsWith e (some (.Name x p0)) pos.line env = pure false := by intro _; rfl) : SS Γ (.Assign [.Name x p0] e pos) (.own j i) := fun X p o =>
  PS_weak (ps_set (i := j) (by rw [o.N]; exact o.nd) (by rw [o.N]; exact hN) (by rw [o.sc]; exact hl) (h X p o.toOkx) (hs _) (.inl (o.fnx x))) fun D σ H q => by
    obtain ⟨st, B, M, F, env, out, r, he, k⟩ := q
    unfold evS at he
    split at he
    · rename_i ds st1 e1
      cases he
      exact ⟨st, B, M, F, env, ds, st1, r, e1, fun a xs B' H' x h1 h2 h3 h4 h5 h6 r' => k B' _ _ H' x (r'.setOw ⟨h1, h2, h3, h4⟩ h5 h6 j (o.noIo hio))⟩
    · cases he
/-- x = [.. for ..]: the same, by the comprehension's own rule for a name -/
theorem ss_lcO (j : Nat) {elt iter : Expr} {ifs : List Expr} {scope : Scope} {y : Str} {px : Pos} {it : IT} {cs : IEs} {ie : IE} (n : Nat) (hi : SI Γ iter it) (hc : STs (Γ.blk scope) ifs cs) (he : SE (Γ.blk scope) elt ie) (hh : Γ.hot = false := by rfl)
    (hN : Γ.N[j]? = some x := by rfl) (hlv : Γ.sc.names.lookup x = some .local := by rfl) (hb : blkC Γ.N Γ.sc scope [(y, n)] = true := by rfl) (hj : Γ.N[n]? = some y := by rfl) (hlx : LcN scope Γ.sc y := by first | exact Or.inl rfl | exact Or.inr ⟨rfl, rfl⟩)
    (hk : Γ.sc.kind = .function := by rfl) (hln : (p0.line == p1.line) = true := by rfl) (hany : (scope.names.any fun (n, k) => n == x && (k == .local || k == .cell)) = false := by rfl)
    (hs : ∀ env y, foldedSetIterable iter env y = pure y := by intro _ _; rfl) (hio : (Γ.io == some j) = false := by rfl) : SS Γ (.Assign [.Name x p0] (.ListComp elt [⟨.Name y px, iter, ifs, 0⟩] scope p1) pos) (.own j (.lc n it cs ie)) := fun X p o =>
  PS_weak (ps_setLc (i := j) (own := [(y, n)]) (g := gName n) (tt := Ts Γ.K Γ.cl p cs) (te := Tx Γ.K Γ.cl p ie) (o.calm hh) (by rw [o.N]; exact o.nd) (by rw [o.N]; exact hN) (by rw [o.sc]; exact hlv)
    (sw_true (by rw [o.sc]; exact hk) (by rw [o.sc]; exact hlv) hln hany) (hi X p _ o.toOkx) (blkOk_by (by rw [o.N, o.sc]; exact hb))
    (fun s H C cl fp => pg_name (show X.N.Nodup by rw [o.N]; exact o.nd) (show X.N[n]? = some y by rw [o.N]; exact hj) (show Loc _ y from hlx.loc (o.toOkx.blk hh scope s H C cl fp).sc) (hlx.fn (o.toOkx.blk hh scope s H C cl fp).sc))
    (fun s H C cl fp => hc _ p (o.toOkx.blk hh scope s H C cl fp)) (fun s H C cl fp => he _ p (o.toOkx.blk hh scope s H C cl fp)) (hs _)) fun D σ H q => by
    obtain ⟨st, B, M, F, env, out, r, he, k⟩ := q
    unfold evS at he
    split at he
    · rename_i ds st1 e1
      cases he
      exact lc_read ⟨st, B, M, F, env, ds, st1, r, e1, fun a xs B' H' x h1 h2 h3 h4 h5 h6 r' => k B' _ _ H' x (r'.setOw ⟨h1, h2, h3, h4⟩ h5 h6 j (o.noIo hio))⟩
    · cases he
theorem ss_lc (j : Nat) {elt iter : Expr} {ifs : List Expr} {scope : Scope} {y : Str} {px : Pos} {it : IT} {cs : IEs} {ie : IE} (n : Nat) (hi : SI Γ iter it) (hc : STs (Γ.blk scope) ifs cs) (he : SE (Γ.blk scope) elt ie) (hh : Γ.hot = false := by rfl)
    (hN : Γ.N[j]? = some x := by rfl) (hlv : Γ.sc.names.lookup x = some .local := by rfl) (hb : blkC Γ.N Γ.sc scope [(y, n)] = true := by rfl) (hj : Γ.N[n]? = some y := by rfl) (hlx : LcN scope Γ.sc y := by first | exact Or.inl rfl | exact Or.inr ⟨rfl, rfl⟩)
    (hk : Γ.sc.kind = .function := by rfl) (hln : (p0.line == p1.line) = true := by rfl) (hany : (scope.names.any fun (n, k) => n == x && (k == .local || k == .cell)) = false := by rfl)
    (hs : ∀ env y, foldedSetIterable iter env y = pure y := by intro _ _; rfl) : SS Γ (.Assign [.Name x p0] (.ListComp elt [⟨.Name y px, iter, ifs, 0⟩] scope p1) pos) (.set j (.lc n it cs ie)) := fun X p o =>
  PS_weak (ps_setLc (i := j) (own := [(y, n)]) (g := gName n) (tt := Ts Γ.K Γ.cl p cs) (te := Tx Γ.K Γ.cl p ie) (o.calm hh) (by rw [o.N]; exact o.nd) (by rw [o.N]; exact hN) (by rw [o.sc]; exact hlv)
    (sw_true (by rw [o.sc]; exact hk) (by rw [o.sc]; exact hlv) hln hany) (hi X p _ o.toOkx) (blkOk_by (by rw [o.N, o.sc]; exact hb))
    (fun s H C cl fp => pg_name (show X.N.Nodup by rw [o.N]; exact o.nd) (show X.N[n]? = some y by rw [o.N]; exact hj) (show Loc _ y from hlx.loc (o.toOkx.blk hh scope s H C cl fp).sc) (hlx.fn (o.toOkx.blk hh scope s H C cl fp).sc))
    (fun s H C cl fp => hc _ p (o.toOkx.blk hh scope s H C cl fp)) (fun s H C cl fp => he _ p (o.toOkx.blk hh scope s H C cl fp)) (hs _)) fun D σ H q => by
    obtain ⟨st, B, M, F, env, out, r, he, k⟩ := q
    unfold evS at he
    split at he
    · rename_i d st1 e1
      cases he
      obtain ⟨_, _, ys, _, _, _, e2⟩ := ev_lc e1
      subst e2
      exact lc_read ⟨st, B, M, F, env, ys, st1, r, e1, fun a xs B' H' x h1 h2 h3 h4 h5 h6 r' => k _ M _ H' (x.trans (Ex.new h1)) ((r'.know h5 h1 h2 h3 h4).set (.lst upd_same (h6.mono (Ex.new h1))) j)⟩
    · cases he
theorem ss_app (n : Nat) (h : SE Γ e i) (hN : Γ.N[n]? = some x := by rfl) (hv : Vis Γ.sc x := by first | exact Or.inl rfl | exact Or.inr (Or.inl rfl) | exact Or.inr (Or.inr rfl)) (hd : (x == ("__debug__" : Str)) = false := by decide) (hcd : (x == ("__classdict__" : Str)) = false := by decide)
    (hbase : ∀ env, attributeBase (.Name x p0) "append" env (eval (.Name x p0) env) = eval (.Name x p0) env := by intro _; rfl)
    (hfew : ∀ env, ((backTo p2 (starEach [e] env)).all (fun x => !x.1) && (backToKw p2 (keywordEach [] env)).all (fun x => x.1.isSome) && decide (([e] : List Expr).length + ([] : List Keyword).length + (if ([] : List Keyword).isEmpty then 0 else 1) < 30)) = true := by intro _; rfl)
    (hline : (p1.endLine == p2.line) = true := by rfl) (hs : ∀ env, starEach [e] env = (false, eval e env) :: starEach [] env := by intro _; rfl) (hsw : ∀ env, swapsWith (.Call (.Attribute (.Name x p0) "append" p1) [e] [] p2) none pos.line env = pure false := by intro _; rfl) :
    SS Γ (.Expr (.Call (.Attribute (.Name x p0) "append" p1) [e] [] p2) pos) (.app n i) := fun X p o =>
  PS_weak (ps_expr (pe_bm PySem.F.plainAttrs_list PySem.F.slot_list_append PySem.F.type_list_append mt_append (pe_var (i := n) (by rw [o.N]; exact hN) (by rw [o.sc]; exact hv) hd hcd) ((sa_cons h sa_nil hs) X p o.toOkx) (hbase _) (hfew _) hline (hs _) rfl) (hsw _)) fun D σ H q => by
    obtain ⟨st, B, M, F, env, out, r, he, k⟩ := q
    unfold evS at he
    split at he
    · rename_i d st1 e1
      split at he
      · rename_i ds e2
        obtain ⟨hl, he⟩ := ite_some he
        subst he
        obtain ⟨w, h1, h2⟩ := r.en.at_ n _ e2
        cases w with
        | none => exact h2.elim
        | some v =>
          cases v with
          | ref a =>
            obtain ⟨xs, h3, h4⟩ := h2
            refine ⟨_, h1, .inl ⟨rfl, xs, Or.inl (Or.inl (r.m _ _ h3))⟩, st, B, M, F, env, [d], st1, r, by unfold ea; rw [e1]; rfl, fun vs B' H' x r' pv => ?_⟩
            match vs, pv with
            | [v], .cons pv .nil =>
              refine ⟨a, xs, v, rfl, rfl, r'.m _ _ h3, most_lt (by rw [h4.length]; exact hl), ?_⟩
              exact k B' _ σ _ x (r'.grow e2 h1 h3 ((h4.mono x).append (.one pv)))
          | _ => exact h2.elim
      · cases he
    · cases he
theorem ss_ext (n : Nat) (h : SE Γ e i) (hN : Γ.N[n]? = some x := by rfl) (hv : Vis Γ.sc x := by first | exact Or.inl rfl | exact Or.inr (Or.inl rfl) | exact Or.inr (Or.inr rfl)) (hd : (x == ("__debug__" : Str)) = false := by decide) (hcd : (x == ("__classdict__" : Str)) = false := by decide)
    (hbase : ∀ env, attributeBase (.Name x p0) "extend" env (eval (.Name x p0) env) = eval (.Name x p0) env := by intro _; rfl)
    (hfew : ∀ env, ((backTo p2 (starEach [e] env)).all (fun x => !x.1) && (backToKw p2 (keywordEach [] env)).all (fun x => x.1.isSome) && decide (([e] : List Expr).length + ([] : List Keyword).length + (if ([] : List Keyword).isEmpty then 0 else 1) < 30)) = true := by intro _; rfl)
    (hline : (p1.endLine == p2.line) = true := by rfl) (hs : ∀ env, starEach [e] env = (false, eval e env) :: starEach [] env := by intro _; rfl) (hsw : ∀ env, swapsWith (.Call (.Attribute (.Name x p0) "extend" p1) [e] [] p2) none pos.line env = pure false := by intro _; rfl) :
    SS Γ (.Expr (.Call (.Attribute (.Name x p0) "extend" p1) [e] [] p2) pos) (.ext n i) := fun X p o =>
  PS_weak (ps_expr (pe_bm PySem.F.plainAttrs_list PySem.F.slot_list_extend PySem.F.type_list_extend (MtM_or mt_extend mt_extT) (pe_var (i := n) (by rw [o.N]; exact hN) (by rw [o.sc]; exact hv) hd hcd) ((sa_cons h sa_nil hs) X p o.toOkx) (hbase _) (hfew _) hline (hs _) rfl) (hsw _)) fun D σ H q => by
    obtain ⟨st, B, M, F, env, out, r, he, k⟩ := q
    unfold evS at he
    split at he
    · rename_i y st1 e1
      split at he
      · rename_i es e0
        split at he
        · rename_i ds e2
          obtain ⟨hl, he⟩ := ite_some he
          subst he
          obtain ⟨w, h1, h2⟩ := r.en.at_ n _ e2
          cases w with
          | none => exact h2.elim
          | some v =>
            cases v with
            | ref a =>
              obtain ⟨xs, h3, h4⟩ := h2
              refine ⟨_, h1, .inl ⟨rfl, xs, Or.inl (Or.inl (r.m _ _ h3))⟩, st, B, M, F, env, [y], st1, r, by unfold ea; rw [e1]; rfl, fun vs B' H' x r' pv => ?_⟩
              match vs, pv with
              | [_], .cons (@Rp.lst _ _ b zs _ hz rz) .nil =>
                cases e0
                refine .inl ⟨a, b, xs, zs, rfl, rfl, r'.m _ _ h3, r'.bs.b _ _ hz, most_line (by rw [h4.length, rz.length]; exact hl), ?_⟩
                exact k B' _ σ _ x (r'.grow e2 h1 h3 ((h4.mono x).append rz))
              | [_], .cons (@Rp.tup _ _ b zs _ hz rz) .nil =>
                cases e0
                refine .inr ⟨a, b, xs, zs, rfl, rfl, r'.m _ _ h3, by rw [o.K]; exact sqt_mono r'.bs.b hz, by rw [h4.length, rz.length]; exact hl, ?_⟩
                exact k B' _ σ _ x (r'.grow e2 h1 h3 ((h4.mono x).append rz))
              | [_], .cons .non .nil => cases e0
              | [_], .cons (.bl _) .nil => cases e0
              | [_], .cons (.int _) .nil => cases e0
              | [_], .cons (.str _) .nil => cases e0
            | _ => exact h2.elim
        · cases he
      · cases he
    · cases he
theorem ss_iff {sa sb : List Stmt} {xa xb : ISs} (hc : ST Γ c ic) (ha : SSs Γ sa xa) (hb : SSs Γ sb xb) : SS Γ (.If c sa sb pos) (.iff ic xa xb) := fun X p o => PS_weak (ps_if (hc X p o.toOkx) (ha X p o) (hb X p o)) fun D σ H q => by
  obtain ⟨st, B, M, F, env, out, r, he, k⟩ := q
  unfold evS at he
  split at he
  · rename_i st1 e1
    exact ⟨st, B, M, F, env, true, st1, r, e1, fun B' H' x r' => iteT ⟨st1, B', M, F, env, out, r', he, k.mono x⟩⟩
  · rename_i st1 e1
    exact ⟨st, B, M, F, env, false, st1, r, e1, fun B' H' x r' => iteF ⟨st1, B', M, F, env, out, r', he, k.mono x⟩⟩
  · cases he
theorem ss_ret (h : SE Γ e i) (hfr : Γ.fr = false := by rfl) : SS Γ (.Return (some e) pos) (.ret i) := fun X p o => PS_weak (ps_ret (h X p o.toOkx)) fun D σ H q => by
  obtain ⟨st, B, M, F, env, out, r, he, k⟩ := q
  unfold evS at he
  split at he
  · rename_i d st1 e1
    cases he
    exact ⟨st, B, M, F, env, d, st1, r, e1, fun v B' H' x r' pv => k v B' H' x r'.bs (by rw [RtV.f (o.fr.trans hfr)]; exact pv)⟩
  · cases he
/-- what is returned is a new list of the def's own -/
theorem ss_retf (h : SF Γ e i) (hfr : Γ.fr = true := by rfl) : SS Γ (.Return (some e) pos) (.retf i) := fun X p o => PS_weak (ps_ret (h X p o.toOkx)) fun D σ H q => by
  obtain ⟨st, B, M, F, env, out, r, he, k⟩ := q
  unfold evS at he
  split at he
  · rename_i ds st1 e1
    cases he
    exact ⟨st, B, M, F, env, ds, st1, r, e1, fun a xs B' H' x h1 h2 h3 h4 h5 h6 r' => k _ B' H' x r'.bs (by rw [RtV.t (o.fr.trans hfr)]; exact .inr ⟨a, xs, ds, rfl, rfl, h5, h6, h1, h3, h4⟩)⟩
  · cases he
/-- None is -/
theorem ss_retn (h : SE Γ e (.cst .non)) (hfr : Γ.fr = true := by rfl) : SS Γ (.Return (some e) pos) (.ret (.cst .non)) := fun X p o => PS_weak (ps_ret (h X p o.toOkx)) fun D σ H q => by
  obtain ⟨st, B, M, F, env, out, r, he, k⟩ := q
  unfold evS at he
  split at he
  · rename_i d st1 e1
    cases he
    unfold ev at e1
    cases e1
    refine ⟨st, B, M, F, env, .none, st, r, rfl, fun v B' H' x r' pv => k v B' H' x r'.bs ?_⟩
    rw [RtV.t (o.fr.trans hfr)]
    cases pv
    exact .inl ⟨rfl, rfl⟩
  · cases he
theorem ss_retN (hfr : Γ.fr = false := by rfl) : SS Γ (.Return none pos) .retN := fun X p o => PS_weak ps_retN fun D σ H q => by
  obtain ⟨st, B, M, F, env, out, r, he, k⟩ := q
  unfold evS at he
  cases he
  exact k .non B H (Ex.refl B) r.bs (by rw [RtV.f (o.fr.trans hfr)]; exact .non)
theorem ss_drop (h : SE Γ e i) (hs : ∀ env, swapsWith e none pos.line env = pure false := by intro _; rfl) : SS Γ (.Expr e pos) (.drop i) := fun X p o => PS_weak (ps_expr (h X p o.toOkx) (hs _)) fun D σ H q => by
  obtain ⟨st, B, M, F, env, out, r, he, k⟩ := q
  unfold evS at he
  split at he
  · rename_i d st1 e1
    cases he
    exact ⟨st, B, M, F, env, d, st1, r, e1, fun v B' H' x r' pv => k B' M σ H' x r'⟩
  · cases he
theorem ss_brk : SS Γ (.Break pos) .brk := fun X p o => PS_weak ps_break fun D σ H q => by
  obtain ⟨st, B, M, F, env, out, r, he, k⟩ := q
  unfold evS at he
  cases he
  exact k B M σ H (Ex.refl B) r
theorem ss_cnt : SS Γ (.Continue pos) .cnt := fun X p o => PS_weak ps_continue fun D σ H q => by
  obtain ⟨st, B, M, F, env, out, r, he, k⟩ := q
  unfold evS at he
  cases he
  exact k B M σ H (Ex.refl B) r
theorem ss_frz (js : List Nat) (h : SS Γ s is) : SS Γ s (.frz js is) := fun X p o => PS_weak (h X p o) fun D σ H q => by
  obtain ⟨st, B, M, F, env, out, r, he, k⟩ := q
  unfold evS at he
  obtain ⟨B', M', x, _, r'⟩ := r.freezeAll js
  exact ⟨st, B', M', F, _, out, r', he, k.mono x⟩
/-! ### targets -/
def Tgt (K : PySem.W.Frag) (p : Pa) (j : Sg) : TG := fun v σ H Q => ∃ st B M F env d env', Rel K p st B M F env σ H ∧ Rp K B v d ∧ sgD j d env = some env' ∧ ∀ σ', Rel K p st B M F env' σ' H → Q σ' H
def SGt (Γ : Gam) (e : Expr) (j : Sg) : Prop := ∀ X p, Oks Γ X p → PG X e (Tgt Γ.K p j)
theorem PG_weak {X : Cx} {t t' : TG} (h : PG X e t) (w : ∀ v σ H Q, t' v σ H Q → t v σ H Q) : PG X e t' := ⟨fun pins s σ H v u Q I r q => h.run pins s σ H v u Q I r (w v σ H Q q)⟩
theorem PG_or {X : Cx} {t t' : TG} (h : PG X e t) (h' : PG X e t') : PG X e (fun v σ H Q => t v σ H Q ∨ t' v σ H Q) := ⟨fun pins s σ H v u Q I r q => by
  rcases q with q | q
  · exact h.run pins s σ H v u Q I r q
  · exact h'.run pins s σ H v u Q I r q⟩
theorem tg_one (j : Nat) (hN : Γ.N[j]? = some x := by rfl) (hl : Loc Γ.sc x := by first | exact Or.inl rfl | exact Or.inr rfl) : SGt Γ (.Name x p0) (.one j) := fun X p o =>
  PG_weak (pg_name (i := j) (by rw [o.N]; exact o.nd) (by rw [o.N]; exact hN) (by rw [o.sc]; exact hl) (.inl (o.fnx x))) fun v σ H Q q => by
    obtain ⟨st, B, M, F, env, d, env', r, pv, he, k⟩ := q
    cases he
    exact k _ (r.set pv j)
def gMany : List Nat → TGs
  | [] => gNil
  | j :: js => gCons (gName j) (gMany js)
def SGs (Γ : Gam) (es : List Expr) (js : List Nat) : Prop := ∀ X p, Oks Γ X p → PGs X es (gMany js)
theorem sgs_nil : SGs Γ [] [] := fun X p o => pgs_nil
theorem sgs_cons {js : List Nat} (j : Nat) (hr : SGs Γ es js) (hN : Γ.N[j]? = some x := by rfl) (hl : Loc Γ.sc x := by first | exact Or.inl rfl | exact Or.inr rfl)
    (hs : ∀ env, (assignEach (.Name x p0 :: es) env).map (·.2) = assign (.Name x p0) env :: (assignEach es env).map (·.2) := by intro _; rfl) : SGs Γ (.Name x p0 :: es) (j :: js) := fun X p o =>
  pgs_cons (pg_name (i := j) (by rw [o.N]; exact o.nd) (by rw [o.N]; exact hN) (by rw [o.sc]; exact hl) (.inl (o.fnx x))) (hr X p o) (hs _)
theorem many_go {K : PySem.W.Frag} {p : Pa} {st : Pl} {B M F : Hp} {H : Hp} : ∀ {js : List Nat} {ds : List D} {vs : List V} {env env' : List Sl} {σ : L2.St} {Q : L2.St → Hp → Prop}, Rel K p st B M F env σ H → RpA K B vs ds → setMany js ds env = some env' → (∀ σ', Rel K p st B M F env' σ' H → Q σ' H) → gMany js vs σ H Q
  | [], [], _, env, env', σ, Q, r, .nil, he, k => by
    cases he
    exact ⟨rfl, k σ r⟩
  | j :: js, d :: ds, _, env, env', σ, Q, r, .cons pv rv, he, k => ⟨_, _, rfl, many_go (r.set pv j) rv he k⟩
  | [], _ :: _, _, _, _, _, _, _, _, he, _ => by cases he
  | _ :: _, [], _, _, _, _, _, _, _, he, _ => by cases he
theorem setMany_len : ∀ {js : List Nat} {ds : List D} {env env' : List Sl}, setMany js ds env = some env' → ds.length = js.length
  | [], [], _, _, _ => rfl
  | j :: js, d :: ds, env, env', h => congrArg Nat.succ (setMany_len (js := js) (ds := ds) h)
  | [], _ :: _, _, _, h => by cases h
  | _ :: _, [], _, _, h => by cases h
theorem tg_many {js : List Nat} {k : Nat} (h : SGs Γ es js) (hh : Γ.hot = false := by rfl) (hn : ∀ env, (assignEach es env).length = js.length := by intro _; rfl) (hst : ∀ env, (assignEach es env).findIdx? (·.1) = none := by intro _; rfl) : SGt Γ (.Tuple es k pos) (.many js) := fun X p o =>
  PG_weak (PG_or (pg_tup (n := js.length) (o.calm hh) (h X p o) (hn _) (hst _)) (pg_unl (n := js.length) (o.calm hh) (h X p o) (hn _) (hst _))) fun v σ H Q q => by
    obtain ⟨st, B, M, F, env, d, env', r, pv, he, kk⟩ := q
    rw [o.K]
    have he' : (match itD d with
      | some ds => setMany js ds env
      | none => none) = some env' := he
    cases e1 : itD d with
    | none =>
      rw [e1] at he'
      cases he'
    | some ds =>
      rw [e1] at he'
      rcases itD_lst e1 with rfl | rfl
      · cases pv with
        | @lst a xs _ hx rx => exact .inr ⟨a, xs, rfl, Or.inl (Or.inl (r.bs.b _ _ hx)), by rw [rx.length, setMany_len he'], many_go r rx he' kk⟩
      · cases pv with
        | @tup a xs _ hx rx => exact .inl ⟨a, xs, rfl, sqt_mono r.bs.b hx, by rw [rx.length, setMany_len he'], many_go r rx he' kk⟩
theorem ss_unp {js : List Nat} {tg : Expr} (h : SE Γ e i) (ht : SGt Γ tg (.many js)) (hs : ∀ env, swapsWithSole [tg] e pos.line env = pure false := by intro _; rfl) (hw : ∀ env, swappedStores [tg] e env = pure none := by intro _; rfl)
    (h1 : ∀ env, (assignEach [tg] env).map (·.2) = [assign tg env] := by intro _; rfl) : SS Γ (.Assign [tg] e pos) (.unp js i) := fun X p o => PS_weak (ps_asg (h X p o.toOkx) (ht X p o) (hs _) (hw _) (h1 _)) fun D σ H q => by
  obtain ⟨st, B, M, F, env, out, r, he, k⟩ := q
  unfold evS at he
  split at he
  · rename_i d st1 e1
    obtain ⟨env1, e2, e3⟩ := Option.map_eq_some_iff.mp he
    subst e3
    exact ⟨st, B, M, F, env, d, st1, r, e1, fun v B' H' x r' pv => ⟨st1, B', M, F, env, d, env1, r', pv, e2, fun σ' r'' => k B' M σ' H' x r''⟩⟩
  · cases he
theorem ss_forg {tg : Expr} {j : Sg} {it : IT} (hi : SIg Γ tg e it) (ht : SGt Γ tg j) (hb : SSs Γ ss iss) (hh : Γ.hot = false := by rfl) (hs : ∀ env y, foldedSetIterable e env y = pure y := by intro _ _; rfl) : SS Γ (.For tg e ss [] pos) (.forr j it iss) := fun X p o =>
  PS_weak (ps_for o.own (o.calm hh) (hi X p o.toOkx) (ht X p o) (hb X p o) (hs _)) fun D σ H q => by
    obtain ⟨st, B, M, F, env, out, r, he, k⟩ := q
    unfold evS at he
    split at he
    · rename_i ds st1 e1
      refine walk_for r e1 (fun B1 n B' σ' H' => Ex B1 B' ∧ Ex B' H' ∧ Ex B B' ∧ ∃ sti envi Mi, Rel Γ.K p sti B' Mi F envi σ' H' ∧ forG (fun d env st => match sgD j d env with
        | some env1 => evSs Γ.cl iss env1 st
        | none => none) (ds.drop n) envi sti = some out) (fun B1 H1 x1 r1 => ⟨Ex.refl B1, r1.bs.b, x1, st1, env, M, r1, he⟩) (fun B1 n B' σ' H' q => ⟨q.1, q.2.1⟩) (fun B1 n B' σ' H' q o z hq => ?_) (fun B1 n d v B' σ' H' x1 hd pv q => ?_) (fun B1 B' σ' H' q => ?_)
      · obtain ⟨x2, x3, x4, sti, envi, Mi, r2, e4⟩ := z
        have nb : B' q = none := x3.free hq
        exact ⟨x2.trans (Ex.new nb), x3.up, x4.trans (Ex.new nb), sti, envi, Mi, r2.new hq, e4⟩
      · obtain ⟨x2, x3, x4, sti, envi, Mi, r2, e4⟩ := q
        have hdr : ds.drop n = d :: ds.drop (n + 1) := List.drop_eq_getElem_cons (by
            exact (List.getElem?_eq_some_iff.mp hd).1) |>.trans (by rw [(List.getElem?_eq_some_iff.mp hd).2])
        rw [hdr] at e4
        unfold forG at e4
        cases e5 : sgD j d envi with
        | none =>
          simp only [e5] at e4
          cases e4
        | some env1 =>
          simp only [e5] at e4
          refine ⟨sti, B', Mi, F, envi, d, env1, r2, pv, e5, fun σ2 r3 => ?_⟩
          cases e6 : evSs Γ.cl iss env1 sti with
          | none =>
            rw [e6] at e4
            cases e4
          | some o1 =>
            rw [e6] at e4
            refine ⟨sti, B', Mi, F, env1, o1, r3, e6, ?_⟩
            cases o1 with
            | nx ev2 st2 => exact fun B3 M3 σ3 H3 x5 r5 => ⟨B3, x2.trans x5, r5.bs.b, x4.trans x5, st2, ev2, M3, r5, e4⟩
            | ct ev2 st2 => exact fun B3 M3 σ3 H3 x5 r5 => ⟨B3, x2.trans x5, r5.bs.b, x4.trans x5, st2, ev2, M3, r5, e4⟩
            | bk ev2 st2 =>
              cases e4
              exact fun B3 M3 σ3 H3 x5 r5 => k B3 M3 σ3 H3 (x4.trans x5) r5
            | rt d2 st2 =>
              cases e4
              exact fun v3 B3 H3 x5 r5 p5 => k v3 B3 H3 (x4.trans x5) r5 p5
      · obtain ⟨x2, x3, x4, sti, envi, Mi, r2, e4⟩ := q
        rw [List.drop_length] at e4
        unfold forG at e4
        cases e4
        exact k B' Mi σ' H' x4 r2
    · cases he
end
theorem ss_for {Γ : Gam} {e : Expr} {ss : List Stmt} {iss : ISs} {pos : Pos} {tg : Expr} {j : Sg} {it : IT} (hi : SI Γ e it) (ht : SGt Γ tg j) (hb : SSs Γ ss iss) (hh : Γ.hot = false := by rfl) (hs : ∀ env y, foldedSetIterable e env y = pure y := by intro _ _; rfl) : SS Γ (.For tg e ss [] pos) (.forr j it iss) := ss_forg hi.g ht hb hh hs
/-! ### a def -/
theorem ArA.length {K : PySem.W.Frag} {p : Pa} {B : Hp} : ∀ {vs : List V} {ds : List (Option D)}, ArA K p B vs ds → vs.length = ds.length
  | _, _, .nil => rfl
  | _, _, .cons _ r => congrArg Nat.succ (ArA.length r)
  | _, _, .pool r => congrArg Nat.succ (ArA.length r)
  | _, _, .cell _ r => congrArg Nat.succ (ArA.length r)
theorem ArA.get {K : PySem.W.Frag} {p : Pa} {B : Hp} : ∀ {vs : List V} {ds : List (Option D)} {i : Nat} {d : Option D}, ArA K p B vs ds → ds[i]? = some d → ∃ v, vs[i]? = some v ∧ SlR K p B (fun _ => none) (slOf d) (some v)
  | _, _, _, _, .nil, e => by simp at e
  | _, _, 0, _, .cons h _, e => by
    simp at e
    subst e
    rw [slOf_rp h]
    exact ⟨_, rfl, h⟩
  | _, _, 0, _, .pool _, e => by
    simp at e
    subst e
    exact ⟨_, rfl, rfl⟩
  | _, _, 0, _, .cell h _, e => by
    simp at e
    subst e
    exact ⟨_, rfl, h⟩
  | _, _, i + 1, d, .cell _ r, e => by
    obtain ⟨v, h1, h2⟩ := ArA.get (i := i) (d := d) r (by simpa using e)
    exact ⟨v, by simpa using h1, h2⟩
  | _, _, i + 1, d, .cons _ r, e => by
    obtain ⟨v, h1, h2⟩ := ArA.get (i := i) (d := d) r (by simpa using e)
    exact ⟨v, by simpa using h1, h2⟩
  | _, _, i + 1, d, .pool r, e => by
    obtain ⟨v, h1, h2⟩ := ArA.get (i := i) (d := d) r (by simpa using e)
    exact ⟨v, by simpa using h1, h2⟩
theorem rel_start {K : PySem.W.Frag} {p : Pa} {st : Pl} {B F H : Hp} {vs : List V} {as : List (Option D)} {N : List Str} (w : Bs p st B F H) (ha : ArA K p B vs as) : Rel K p st B (fun _ => none) F (as.map slOf ++ List.replicate (N.length - as.length) .no) (L2.start N vs) H where
  bs := w
  m := fun a o h => by cases h
  md := fun a o h => by cases h
  mc := fun _ _ _ => rfl
  mt := fun _ _ => rfl
  en := {
    len := by
      unfold L2.start
      simp [ha.length]
    at_ := fun i s hi => by
      unfold L2.start
      by_cases hl : i < as.length
      · rw [List.getElem?_append_left (by simpa using hl), List.getElem?_map] at hi
        obtain ⟨d, h1, h2⟩ := Option.map_eq_some_iff.mp hi
        subst h2
        obtain ⟨v, h3, h4⟩ := ha.get h1
        exact ⟨some v, by rw [List.getElem?_append_left (by simpa [ha.length] using hl), List.getElem?_map, h3]; rfl, h4⟩
      · rw [List.getElem?_append_right (by simpa using hl), List.getElem?_replicate] at hi
        split at hi
        · rename_i hlt
          cases hi
          refine ⟨none, ?_, True.intro⟩
          rw [List.getElem?_append_right (by simpa [ha.length] using hl), List.getElem?_replicate, if_pos (by simpa [ha.length] using hlt)]
        · cases hi
    ap := fun i j ds es a hi _ _ _ => by
      by_cases hl : i < as.length
      · rw [List.getElem?_append_left (by simpa using hl), List.getElem?_map] at hi
        obtain ⟨d, h1, h2⟩ := Option.map_eq_some_iff.mp hi
        exact absurd h2 slOf_ow
      · rw [List.getElem?_append_right (by simpa using hl), List.getElem?_replicate] at hi
        split at hi <;> cases hi
    io := fun i a ds _ hi => by
      by_cases hl : i < as.length
      · rw [List.getElem?_append_left (by simpa using hl), List.getElem?_map] at hi
        obtain ⟨d, h1, h2⟩ := Option.map_eq_some_iff.mp hi
        exact absurd h2 slOf_ow
      · rw [List.getElem?_append_right (by simpa using hl), List.getElem?_replicate] at hi
        split at hi <;> cases hi }
section
variable {P : Program} {w : World} {K : PySem.W.Frag} {mg : Str → Option Value} {base : Heap}
/-- an own error, where defs are told -/
structure ErrFo (P : Program) (w : World) (K : PySem.W.Frag) (mg : Str → Option Value) (base : Heap) (k : Nat) (x fld : Str) (C : Addr) : Prop where
  mgc : mg x = some (.ref C)
  oex : OexC K C
  def_ : ∃ fI fd j ps, j + 1 ≤ k ∧ PySem.W.findIn K (.ref C) "__init__" = some (some (.ref fI)) ∧ PySem.W.typeIn K (.ref fI) = some (.type "function") ∧ FnOk P w K mg base (L2N.CX P w) j fI fd ps (spE1 C fld) ∧ Binds K fd ps []
theorem ErrFo.at_ {P : Program} {w : World} {K : PySem.W.Frag} {mg : Str → Option Value} {base : Heap} {k : Nat} {x fld : Str} {C : Addr} {X : Cx} (e : ErrFo P w K mg base k x fld C) (hr : Room k X.A) (h1 : X.prog = P) (h2 : X.w = w) (h3 : X.K = K) (h4 : X.mg = mg) (h5 : X.base = base) : ErrAt X x fld C := by
  subst h1 h2 h3 h4 h5
  obtain ⟨fI, fd, j, ps, hj, a, b, c, d⟩ := e.def_
  exact ⟨e.mgc, e.oex, fI, fd, j, ps, a, b, c, hr.mono hj, d⟩
/-- a def that keeps what the table says of it -/
def Fo (P : Program) (w : World) (K : PySem.W.Frag) (mg : Str → Option Value) (base : Heap) (k : Nat) (cl : Cl) (f : Str) : Prop := ∃ fa fd ps, FnOk P w K mg base (L2N.CX P w) k fa fd ps (spF K cl f) ∧ mg f = some (.ref fa) ∧ PySem.W.keepIn K (.ref fa) = true ∧ Binds K fd ps []
def FoG (P : Program) (w : World) (K : PySem.W.Frag) (mg : Str → Option Value) (base : Heap) (k : Nat) (es : List (Str × Str)) (cl : Cl) (f : Str) : Prop := ∃ fa fd ps, FnOk P w K mg base (L2N.CX P w) k fa fd ps (spG mg es K cl f) ∧ mg f = some (.ref fa) ∧ PySem.W.keepIn K (.ref fa) = true ∧ Binds K fd ps []
def FoH (P : Program) (w : World) (K : PySem.W.Frag) (mg : Str → Option Value) (base : Heap) (k : Nat) (cl : Cl) (f : Str) : Prop := ∃ fa fd ps, L2H.FnH P w K mg base (L2N.CX P w) k fa fd ps (spF K cl (hotN f)) ∧ mg f = some (.ref fa) ∧ PySem.W.keepIn K (.ref fa) = true ∧ Binds K fd ps []
def FoL (P : Program) (w : World) (K : PySem.W.Frag) (mg : Str → Option Value) (base : Heap) (k : Nat) (cl : Cl) (f : Str) : Prop := ∃ fa fd ps j, j + 3 ≤ k ∧ GFn P w K mg base j fa fd ps (spL K cl f) ∧ mg f = some (.ref fa) ∧ PySem.W.keepIn K (.ref fa) = true ∧ Binds K fd ps [] ∧ ∀ as st d st', cl f as st = some (d, st') → ∃ ys, d = PyData.list ys
def FoI (P : Program) (w : World) (K : PySem.W.Frag) (mg : Str → Option Value) (base : Heap) (k : Nat) (cl : Cl) (f : Str) : Prop := ∃ fa fd ps, FnOk P w K mg base (L2N.CX P w) k fa fd ps (spI K cl f) ∧ mg f = some (.ref fa) ∧ PySem.W.keepIn K (.ref fa) = true ∧ Binds K fd ps []
def FoR (P : Program) (w : World) (K : PySem.W.Frag) (mg : Str → Option Value) (base : Heap) (k : Nat) (cl : Cl) (f : Str) : Prop := ∃ fa fd ps, FnOk P w K mg base (L2N.CX P w) k fa fd ps (spR K cl f) ∧ mg f = some (.ref fa) ∧ PySem.W.keepIn K (.ref fa) = true ∧ Binds K fd ps []
/-- what stands behind a def's body -/
structure Av (P : Program) (w : World) (K : PySem.W.Frag) (mg : Str → Option Value) (base : Heap) (k : Nat) (Γ : Gam) : Prop where
  fn : Γ.hot = false → ∀ g ∈ Γ.fs, Fo P w K mg base k Γ.cl g
  fnh : ∀ g ∈ Γ.hs, FoH P w K mg base k Γ.cl g
  bl : ∀ g ∈ Γ.bs, mg g = none
  xn : Γ.hot = false → ∀ g ∈ Γ.xs, FoG P w K mg base k Γ.es Γ.cl g
  er : Γ.hot = false → ∀ q ∈ Γ.es, ∃ C, ErrFo P w K mg base k q.1 q.2 C
  df : Γ.hot = false → ∀ q ∈ Γ.df, ∃ fa fd ps us, FnOk P w K mg base (L2N.CX P w) k fa fd ps (spG mg Γ.es K Γ.cl q.1) ∧ mg q.1 = some (.ref fa) ∧ PySem.W.keepIn K (.ref fa) = true ∧ Binds K fd ps us ∧ Vals (q.2.map Cst.v) us
  ef : ErrFacts Γ K mg
  gn : Γ.hot = false → ∀ g ∈ Γ.gn, FoL P w K mg base k Γ.cl g := by
    intro _ g hg
    cases hg
  fi : Γ.hot = false → ∀ g ∈ Γ.fi, FoI P w K mg base k Γ.cl g := by
    intro _ g hg
    cases hg
  ff : Γ.hot = false → ∀ g ∈ Γ.ff, FoR P w K mg base k Γ.cl g := by
    intro _ g hg
    cases hg
  kd : ∀ q ∈ Γ.kd, DctAt K w mg q := by
    intro q hq
    cases hq
  lx : Γ.hot = false → ∀ g ∈ Γ.lx, ∃ fa fd ps j, j + 3 ≤ k ∧ FnOk P w K mg base (L2N.CX P w) j fa fd ps (spF K Γ.cl g) ∧ mg g = some (.ref fa) ∧ PySem.W.keepIn K (.ref fa) = true ∧ Binds K fd ps [] := by
    intro _ g hg
    cases hg
  lm : Γ.lm = false := by rfl
section
variable {N : List Str} {qual : Str} {scope : Scope} {f : Addr} {cdv : Value} {A : Around} {outer : List Env} {s : Shared} {H : Hp} {E : XK} {k : Nat} {Γ : Gam} {p : Pa}
theorem Av.oks (a : Av P w K mg base k Γ) (hh : Γ.hot = false) (hK : Γ.K = K) (hN : Γ.N = N) (nd : N.Nodup) (hsc : Γ.sc = scope) (hl : p.lk = noLk) (hio : p.io.map Prod.fst = Γ.io) (hfr : p.fr = Γ.fr) (htb : p.tb = tabK K) (hr : Room k (A.deeper (PyProof.Rows.envOfC qual scope s.heap.objs.size f cdv))) :
    Oks Γ (cxOf (L2N.CX P w) P w K mg base N qual scope f cdv A outer s H E) p where
  K := hK.symm
  N := hN.symm
  nd := by rw [hN]; exact nd
  sc := hsc.symm
  calm := fun _ => rfl
  hotc := fun z => by
    rw [hh] at z
    cases z
  units := by
    have h := hr.un
    show (A.deeper (PyProof.Rows.envOfC qual scope s.heap.objs.size f cdv)).units + 100 < cLine
    omega
  fn := fun z g hg => by
    obtain ⟨fa, fd, ps, F1, h1, h2, h3⟩ := a.fn z g hg
    rw [hK]
    exact ⟨fa, fd, ps, k, F1, h1, h2, h3, hr⟩
  fnh := fun g hg => by
    obtain ⟨fa, fd, ps, F1, h1, h2, h3⟩ := a.fnh g hg
    rw [hK]
    exact ⟨fa, fd, ps, k, F1, h1, h2, h3, L2H.roomH_of hr⟩
  bl := a.bl
  xn := fun z g hg => by
    obtain ⟨fa, fd, ps, F1, h1, h2, h3⟩ := a.xn z g hg
    rw [hK]
    exact ⟨fa, fd, ps, k, F1, h1, h2, h3, hr⟩
  er := fun z q hq => by
    obtain ⟨C, e⟩ := a.er z q hq
    exact ⟨C, e.at_ hr rfl rfl rfl rfl rfl⟩
  df := fun z q hq => by
    obtain ⟨fa, fd, ps, us, F1, h1, h2, h3, h4⟩ := a.df z q hq
    rw [hK]
    exact ⟨fa, fd, ps, k, us, F1, h1, h2, h3, h4, hr⟩
  gn := fun z g hg => by
    obtain ⟨fa, fd, ps, j, hj, F1, h1, h2, h3, h4⟩ := a.gn z g hg
    rw [hK]
    exact ⟨fa, fd, ps, j, F1, h1, h2, h3, hr.mono hj, h4⟩
  lk := fun _ => hl
  lkh := fun _ _ _ _ z => by
    rw [hl] at z
    exact z.elim
  ef := ⟨a.ef.cl, a.ef.ki, a.ef.tr, a.ef.gc⟩
  kd := a.kd
  lx := fun z g hg => by
    obtain ⟨fa, fd, ps, j, hj, F1, h1, h2, h3⟩ := a.lx z g hg
    rw [hK]
    exact ⟨fa, fd, ps, j, F1, h1, h2, h3, hr.mono hj⟩
  lm := fun z => by
    rw [a.lm] at z
    cases z
  tb := by rw [hK]; exact htb
  own := passes_of rfl
  stk := rfl
  frm := rfl
  fnx := fun _ => rfl
  io := hio
  fr := hfr
  fi := fun z g hg => by
    obtain ⟨fa, fd, ps, F1, h1, h2, h3⟩ := a.fi z g hg
    rw [hK]
    exact ⟨fa, fd, ps, k, F1, h1, h2, h3, hr⟩
  ff := fun z g hg => by
    obtain ⟨fa, fd, ps, F1, h1, h2, h3⟩ := a.ff z g hg
    rw [hK]
    exact ⟨fa, fd, ps, k, F1, h1, h2, h3, hr⟩
theorem Av.oksH (a : Av P w K mg base k Γ) (hh : Γ.hot = true) (hK : Γ.K = K) (hN : Γ.N = N) (nd : N.Nodup) (hsc : Γ.sc = scope) (hl : p.lk = noLk) (hio : p.io.map Prod.fst = Γ.io) (hfr : p.fr = Γ.fr) (htb : p.tb = tabK K) {q : Addr × Obj} (hq : L2H.Hot1 A q) (hr : L2H.RoomH k (A.deeper (PyProof.Rows.envOfC qual scope s.heap.objs.size f cdv))) :
    Oks Γ (L2H.cxH (L2N.CX P w) P w K mg base N qual scope f cdv A outer s H E q) p where
  K := hK.symm
  N := hN.symm
  nd := by rw [hN]; exact nd
  sc := hsc.symm
  calm := fun z => by
    rw [hh] at z
    cases z
  hotc := fun _ => ⟨q, hq, List.mem_singleton.mpr rfl⟩
  units := by
    have h := hr.un
    show (A.deeper (PyProof.Rows.envOfC qual scope s.heap.objs.size f cdv)).units + 100 < cLine
    omega
  fn := fun z => by
    rw [hh] at z
    cases z
  fnh := fun g hg => by
    obtain ⟨fa, fd, ps, F1, h1, h2, h3⟩ := a.fnh g hg
    rw [hK]
    exact ⟨fa, fd, ps, k, F1, h1, h2, h3, hr⟩
  bl := a.bl
  xn := fun z => by
    rw [hh] at z
    cases z
  er := fun z => by
    rw [hh] at z
    cases z
  gn := fun z => by
    rw [hh] at z
    cases z
  df := fun z => by
    rw [hh] at z
    cases z
  lk := fun z => by
    rw [hh] at z
    cases z
  lkh := fun _ _ _ _ z => by
    rw [hl] at z
    exact z.elim
  ef := ⟨a.ef.cl, a.ef.ki, a.ef.tr, a.ef.gc⟩
  kd := a.kd
  lx := fun z => by
    rw [hh] at z
    cases z
  lm := fun z => by
    rw [a.lm] at z
    cases z
  tb := by rw [hK]; exact htb
  own := passes_of rfl
  stk := rfl
  frm := rfl
  fnx := fun _ => rfl
  io := hio
  fr := hfr
  fi := fun z => by
    rw [hh] at z
    cases z
  ff := fun z => by
    rw [hh] at z
    cases z
end
/-- a def's end over data -/
theorem run_end {K : PySem.W.Frag} {p : Pa} (hs : Std K p) {st st' : Pl} {B F H : Hp} {vs : List V} {as : List (Option D)} {N : List Str} {cl : Cl} {I : IF} {d : D} {Q : VK} (w1 : Bs p st B F H) (ha : ArA K p B vs as) (hn : I.n = N.length) (hrun : runF cl I as st = some (d, st'))
    (kk : ∀ v B' H', Ex B B' → Bs p st' B' F H' → Rp K B' v d → Q v H') : TSs K cl p I.body { nx := fun _ H' => Q .non H', rt := Q } (L2.start N vs) H := by
  refine ⟨st, B, fun _ => none, F, as.map slOf ++ List.replicate (N.length - as.length) .no, ?_⟩
  unfold runF at hrun
  rw [hn] at hrun
  cases e1 : evSs cl I.body (as.map slOf ++ List.replicate (N.length - as.length) .no) st with
  | none =>
    rw [e1] at hrun
    cases hrun
  | some o =>
    rw [e1] at hrun
    cases o with
    | rt d2 st2 =>
      cases hrun
      exact ⟨_, rel_start w1 ha, rfl, fun v B' H' x r pv => kk v B' H' x r (by rw [RtV.f hs.fr] at pv; exact pv)⟩
    | nx env2 st2 =>
      cases hrun
      exact ⟨_, rel_start w1 ha, rfl, fun B' M' σ' H' x r => kk .non B' H' x r.bs .non⟩
    | bk env2 st2 => cases hrun
    | ct env2 st2 => cases hrun
/-- a def's promise, over data, from its body in short -/
theorem fn_ok {x qual : Str} {params : Arguments} {body : List Stmt} {scope : Scope} {f : Addr} {fd : FuncData} {N ps : List Str} {k : Nat} {Γ : Gam} {I : IF} {cl : Cl} {g : Str} {dvs : List V} {kws : List (Str × V)} (F : FunD K x qual params body scope dvs kws f fd) (S : FnScope N ps scope)
    (hh : Γ.hot = false) (hK : Γ.K = K) (hN : Γ.N = N) (hsc : Γ.sc = scope) (hb : SSs Γ body I.body) (hn : I.n = N.length)
    (hcl : ∀ as st d st', cl g as st = some (d, st') → as.length = ps.length ∧ runF Γ.cl I as st = some (d, st')) (a : Av P w K mg base k Γ) (hio : Γ.io = none := by rfl) (hfr : Γ.fr = false := by rfl) : FnOk P w K mg base (L2N.CX P w) (k + 1) f fd ps (spF K cl g) := by
  refine F.ok S (fun vs H Q E h => ?_) (fun cdv A outer s H vs Q E hr h => ?_)
  · obtain ⟨p, st, B, F, as, d, st', _, _, ha, he, _⟩ := h
    rw [ha.length, (hcl _ _ _ _ he).1]
  · obtain ⟨p, st, B, F, as, d, st', hl, w1, ha, he, kk⟩ := h
    refine ⟨_, hb _ p (a.oks hh hK hN S.nd hsc hl.lk (by rw [hl.io, hio]; rfl) (hl.fr.trans hfr.symm) hl.tb hr), ?_⟩
    rw [hK]
    exact run_end hl w1 ha hn (hcl _ _ _ _ he).2 kk
/-- the same within an except suite -/
theorem fnh_ok {x qual : Str} {params : Arguments} {body : List Stmt} {scope : Scope} {f : Addr} {fd : FuncData} {N ps : List Str} {k : Nat} {Γ : Gam} {I : IF} {cl : Cl} {g : Str} {dvs : List V} {kws : List (Str × V)} (F : FunD K x qual params body scope dvs kws f fd) (S : FnScope N ps scope)
    (hh : Γ.hot = true) (hK : Γ.K = K) (hN : Γ.N = N) (hsc : Γ.sc = scope) (hb : SSs Γ body I.body) (hn : I.n = N.length)
    (hcl : ∀ as st d st', cl g as st = some (d, st') → as.length = ps.length ∧ runF Γ.cl I as st = some (d, st')) (a : Av P w K mg base k Γ) (hio : Γ.io = none := by rfl) (hfr : Γ.fr = false := by rfl) : L2H.FnH P w K mg base (L2N.CX P w) (k + 1) f fd ps (spF K cl g) := by
  obtain ⟨oc, od, dV, kV, doc, pm, an, cdv, ct, osl, rfl, lk, hcd, _, _⟩ := F.ex
  refine L2H.fn_ofH lk hcd S (fun vs H Q E h => ?_) (fun A outer s H vs Q E q hq hr h => ?_)
  · obtain ⟨p, st, B, F, as, d, st', _, _, ha, he, _⟩ := h
    rw [ha.length, (hcl _ _ _ _ he).1]
  · obtain ⟨p, st, B, F, as, d, st', hl, w1, ha, he, kk⟩ := h
    refine ⟨_, hb _ p (a.oksH hh hK hN S.nd hsc hl.lk (by rw [hl.io, hio]; rfl) (hl.fr.trans hfr.symm) hl.tb hq hr), ?_⟩
    rw [hK]
    exact run_end hl w1 ha hn (hcl _ _ _ _ he).2 kk
end
end Ip

set_option Elab.async false
set_option linter.all false
set_option maxRecDepth 100000
set_option maxHeartbeats 4000000
namespace Ip
open PySem L2
section
variable {Γ : Gam} {e a b c : Expr} {i : IE} {pos p0 p1 p2 p3 p4 p5 : Pos} {x : Str} {j0 j1 : Nat}
theorem pl_of {K : PySem.W.Frag} {p : Pa} {st : Pl} {B M F : Hp} {env : List Sl} {σ : L2.St} {H : Hp} {n : Nat} (r : Rel K p st B M F env σ H) (he : env[n]? = some .pl) : σ[n]? = some (some (.ref p)) := by
  obtain ⟨w, h1, h2⟩ := r.en.at_ n _ he
  cases w with
  | none => exact h2.elim
  | some v =>
    cases v with
    | ref a =>
      obtain rfl : a = p := h2
      exact h1
    | _ => exact h2.elim
theorem pix_se (n k : Nat) (hN : Γ.N[n]? = some x := by rfl) (hv : Vis Γ.sc x := by first | exact Or.inl rfl | exact Or.inr (Or.inl rfl) | exact Or.inr (Or.inr rfl)) (hd : (x == ("__debug__" : Str)) = false := by decide) (hcd : (x == ("__classdict__" : Str)) = false := by decide) :
    SE Γ (.Subscript (.Name x p0) (.Constant (.int (k : Int)) j0 p1) pos) (.pix n k) := fun X p o =>
  PE_weak (pe_ix ix_list (pe_var (i := n) (by rw [o.N]; exact hN) (by rw [o.sc]; exact hv) hd hcd) pe_int (fun _ _ => rfl)) fun σ H Q q => by
    obtain ⟨st, B, M, F, env, d, st', r, he, kk⟩ := q
    unfold ev at he
    split at he
    · rename_i e1
      obtain ⟨m, e2, e3⟩ := Option.map_eq_some_iff.mp he
      cases e3
      obtain ⟨h1, h2⟩ := r.bs.pl
      refine ⟨_, pl_of r e1, p, _, _, .int m, rfl, rfl, Or.inl (Or.inl h1), ?_, kk _ B H (Ex.refl B) r (.int _)⟩
      match k, e2 with
      | 1, e2 => cases e2; rfl
      | 2, e2 => cases e2; rfl
      | 3, e2 => cases e2; rfl
      | 4, e2 => cases e2; rfl
    · cases he
theorem pix0 (n : Nat) (hN : Γ.N[n]? = some x) (hv : Vis Γ.sc x) (hd : (x == ("__debug__" : Str)) = false) (hcd : (x == ("__classdict__" : Str)) = false) (X : Cx) (p : Pa) (o : Okx Γ X p) : PE X (.Subscript (.Name x p0) (.Constant (.int 0) j0 p1) pos)
    (fun σ H Q => ∃ (st : Pl) (B M F : Hp) (env : List Sl) (_q : Addr), Rel Γ.K p st B M F env σ H ∧ env[n]? = some .pl ∧ ∀ q, B q = some (.lst (st.ns.map V.int)) → Q (.ref q) H) :=
  PE_weak (pe_ix ix_list (pe_var (i := n) (by rw [o.N]; exact hN) (by rw [o.sc]; exact hv) hd hcd) pe_int (fun _ _ => rfl)) fun σ H Q q => by
    obtain ⟨st, B, M, F, env, _, r, he, kk⟩ := q
    obtain ⟨h1, h2⟩ := r.bs.pl
    exact ⟨_, pl_of r he, p, _, _, .ref p.q, rfl, rfl, Or.inl (Or.inl h1), rfl, kk _ h2⟩
theorem pcel_se (n : Nat) (hN : Γ.N[n]? = some x := by rfl) (hv : Vis Γ.sc x := by first | exact Or.inl rfl | exact Or.inr (Or.inl rfl) | exact Or.inr (Or.inr rfl)) (hd : (x == ("__debug__" : Str)) = false := by decide) (hcd : (x == ("__classdict__" : Str)) = false := by decide) :
    SE Γ (.Subscript (.Subscript (.Name x p0) (.Constant (.int 0) j0 p1) p2) (.Subscript (.Name x p3) (.Constant (.int 1) j1 p4) p5) pos) (.pcel n) := fun X p o =>
  PE_weak (pe_ix ix_list (pix0 n hN hv hd hcd X p o) (pix_se (x := x) n 1 hN hv hd hcd X p o) (fun _ _ => rfl)) fun σ H Q q => by
    obtain ⟨st, B, M, F, env, d, st', r, he, kk⟩ := q
    unfold ev at he
    split at he
    · rename_i e1
      obtain ⟨m, e2, e3⟩ := Option.map_eq_some_iff.mp he
      cases e3
      refine ⟨st, B, M, F, env, p.a, r, e1, fun q h2 => ⟨st, B, M, F, env, .int st.i, st, r, by unfold ev; rw [e1]; rfl, fun v B' H' x1 r' pv => ?_⟩⟩
      cases pv
      refine ⟨q, st.ns.map V.int, st.i, .int m, rfl, rfl, Or.inl (Or.inl (r'.bs.b _ _ (x1 _ _ h2))), ?_, kk _ B' H' x1 r' (.int _)⟩
      unfold L2.atI at e2 ⊢
      obtain ⟨w, e4, e5⟩ := Option.bind_eq_some_iff.mp e2
      rw [List.length_map, e4]
      show (st.ns.map V.int)[w]? = some (.int m)
      rw [List.getElem?_map, e5]
      rfl
    · cases he
theorem plen_se (n : Nat) (hN : Γ.N[n]? = some x := by rfl) (hv : Vis Γ.sc x := by first | exact Or.inl rfl | exact Or.inr (Or.inl rfl) | exact Or.inr (Or.inr rfl)) (hd : (x == ("__debug__" : Str)) = false := by decide) (hcd : (x == ("__classdict__" : Str)) = false := by decide)
    (hb : Γ.bs.contains "len" = true := by rfl) (hg : GlS Γ.sc "len" := by rfl) : SE Γ (.Call (.Name "len" p3) [.Subscript (.Name x p0) (.Constant (.int 0) j0 p1) p2] [] pos) (.plen n) := fun X p o =>
  PE_weak (pe_callB call_len (o.gl hg) (o.bl _ (List.contains_iff_mem.mp hb)) PySem.boot_len (pa_cons (pix0 n hN hv hd hcd X p o) pa_nil) (by decide) (by decide) rfl rfl) fun σ H Q q => by
    obtain ⟨st, B, M, F, env, d, st', r, he, kk⟩ := q
    unfold ev at he
    split at he
    · rename_i e1
      cases he
      exact ⟨st, B, M, F, env, p.a, r, e1, fun q h2 => ⟨_, _, rfl, .inl ⟨_, Or.inl (Or.inl (r.bs.b _ _ h2)), rfl⟩, kk _ B H (Ex.refl B) r (by rw [List.length_map]; exact .int _)⟩⟩
    · cases he
theorem Rel.pool {K : PySem.W.Frag} {p : Pa} {st st' : Pl} {B M F : Hp} {env : List Sl} {σ : L2.St} {H : Hp} (r : Rel K p st B M F env σ H) (hq : B p.q = some (.lst (st'.ns.map V.int))) (hcs : st'.cs = st.cs := by rfl) : Rel K p st' B M F env σ (upd H p (.lst [.ref p.q, .int st'.i, .int st'.r, .int st'.c, .int st'.l])) where
  bs := {
    b := r.bs.b.right r.bs.pb
    f := r.bs.f.right r.bs.pf
    d := r.bs.d
    pf := r.bs.pf
    pb := r.bs.pb
    pl := ⟨upd_same, hq⟩
    ce := by
      have h := r.bs.ce.up (H' := upd H p (.lst [.ref p.q, .int st'.i, .int st'.r, .int st'.c, .int st'.l])) (fun k a hk => ⟨(r.bs.ce.b k a hk).1, (r.bs.ce.b k a hk).2.1⟩) (fun k a hk => upd_ne (r.bs.ce.b k a hk).2.2) r.bs.ce.tn fun z => tabs_lst z r.bs.pl.1
      refine ⟨fun k a hk => ?_, h.b, h.inj, h.tn, h.tt⟩
      obtain ⟨xs, ds, h1, h2, h3⟩ := h.at_ k a hk
      exact ⟨xs, ds, by rw [hcs]; exact h1, h2, h3⟩ }
  m := fun a o h => by
    rw [upd_ne (r.md a o h).2.2]
    exact r.m a o h
  md := r.md
  mc := r.mc
  mt := r.mt
  en := r.en
theorem ss_pput (n k : Nat) (h : SE Γ e i) (hN : Γ.N[n]? = some x := by rfl) (hv : Vis Γ.sc x := by first | exact Or.inl rfl | exact Or.inr (Or.inl rfl) | exact Or.inr (Or.inr rfl)) (hd : (x == ("__debug__" : Str)) = false := by decide) (hcd : (x == ("__classdict__" : Str)) = false := by decide)
    (hs : ∀ env, swapsWithSole [.Subscript (.Name x p0) (.Constant (.int (k : Int)) j0 p1) p2] e pos.line env = pure false := by intro _; rfl) (hw : ∀ env, swappedStores [.Subscript (.Name x p0) (.Constant (.int (k : Int)) j0 p1) p2] e env = pure none := by intro _; rfl)
    (h1 : ∀ env, (assignEach [.Subscript (.Name x p0) (.Constant (.int (k : Int)) j0 p1) p2] env).map (·.2) = [assign (.Subscript (.Name x p0) (.Constant (.int (k : Int)) j0 p1) p2) env] := by intro _; rfl) :
    SS Γ (.Assign [.Subscript (.Name x p0) (.Constant (.int (k : Int)) j0 p1) p2] e pos) (.pput n k i) := fun X p o =>
  PS_weak (ps_asg (h X p o.toOkx) (pg_sub (pe_var (i := n) (by rw [o.N]; exact hN) (by rw [o.sc]; exact hv) hd hcd) pe_int set_list) (hs _) (hw _) (h1 _)) fun D σ H q => by
    obtain ⟨st, B, M, F, env, out, r, he, kk⟩ := q
    unfold evS at he
    split at he
    · rename_i m st1 e1
      split at he
      · rename_i e2
        obtain ⟨st2, e3, e4⟩ := Option.map_eq_some_iff.mp he
        subst e4
        refine ⟨st, B, M, F, env, .int m, st1, r, e1, fun v B' H' x1 r' pv => ?_⟩
        cases pv
        obtain ⟨h3, h4⟩ := r'.bs.pl
        refine ⟨_, pl_of r' e2, p, _, (k : Int), k, rfl, rfl, h3, ?_, ?_⟩
        · match k, e3 with
          | 1, _ => rfl
          | 2, _ => rfl
          | 3, _ => rfl
          | 4, _ => rfl
        · match k, e3 with
          | 1, e3 => cases e3; exact kk B' M σ _ x1 (r'.pool (st' := { st1 with i := m }) h4)
          | 2, e3 => cases e3; exact kk B' M σ _ x1 (r'.pool (st' := { st1 with r := m }) h4)
          | 3, e3 => cases e3; exact kk B' M σ _ x1 (r'.pool (st' := { st1 with c := m }) h4)
          | 4, e3 => cases e3; exact kk B' M σ _ x1 (r'.pool (st' := { st1 with l := m }) h4)
      · cases he
    · cases he
end
end Ip

set_option Elab.async false
set_option linter.all false
set_option maxRecDepth 100000
set_option maxHeartbeats 4000000
namespace Ip
open PySem L2
def Ty.n : Ty → String
  | .int => "int"
  | .bool => "bool"
  | .str => "str"
  | .list => "list"
  | .tuple => "tuple"
def Ty.s : Ty → Str
  | .int => "int"
  | .bool => "bool"
  | .str => "str"
  | .list => "list"
  | .tuple => "tuple"
theorem ty_of {K : PySem.W.Frag} {B H : Hp} {v : V} {d : D} (x : Ex B H) (h : Rp K B v d) : ∃ a, TyX K H v (.type a) ∧ ∀ t : Ty, kitB a t.n = some (isiD t d) := by
  cases h with
  | non => exact ⟨_, .base .non, fun t => by cases t <;> first | exact (show kitB _ _ = some true by decide +kernel) | exact (show kitB _ _ = some false by decide +kernel)⟩
  | bl b => exact ⟨_, .base (.bl b), fun t => by cases t <;> first | exact (show kitB _ _ = some true by decide +kernel) | exact (show kitB _ _ = some false by decide +kernel)⟩
  | int i => exact ⟨_, .base (.int i), fun t => by cases t <;> first | exact (show kitB _ _ = some true by decide +kernel) | exact (show kitB _ _ = some false by decide +kernel)⟩
  | str s => exact ⟨_, .base (.str s), fun t => by cases t <;> first | exact (show kitB _ _ = some true by decide +kernel) | exact (show kitB _ _ = some false by decide +kernel)⟩
  | lst hx _ => exact ⟨_, .base (.lst (x _ _ hx)), fun t => by cases t <;> first | exact (show kitB _ _ = some true by decide +kernel) | exact (show kitB _ _ = some false by decide +kernel)⟩
  | tup hx _ =>
    rcases hx with (hx | ⟨o, hx⟩) | ⟨o, its, n, hk, hc, _⟩
    · exact ⟨_, .base (.tup (x _ _ hx)), fun t => by cases t <;> first | exact (show kitB _ _ = some true by decide +kernel) | exact (show kitB _ _ = some false by decide +kernel)⟩
    · exact ⟨_, .fTuple (x _ _ hx), fun t => by cases t <;> first | exact (show kitB _ _ = some true by decide +kernel) | exact (show kitB _ _ = some false by decide +kernel)⟩
    · exact ⟨_, .kTuple hk hc, fun t => by cases t <;> first | exact (show kitB _ _ = some true by decide +kernel) | exact (show kitB _ _ = some false by decide +kernel)⟩
theorem ty_blt (t : Ty) : bootBuiltins t.s = some (.type t.n) := by cases t <;> decide +kernel
theorem ty_db (t : Ty) : t.s ≠ "__name__" ∧ (t.s == ("__debug__" : Str)) = false := by cases t <;> decide
section
variable {Γ : Gam} {e : Expr} {i : IE} {pos p0 p1 : Pos}
theorem isi_se (t : Ty) (h : SE Γ e i) (hb : Γ.bs.contains "isinstance" = true := by rfl) (hg : GlS Γ.sc "isinstance" := by rfl) (ht : Γ.bs.contains t.s = true := by rfl) (htg : GlS Γ.sc t.s := by rfl)
    (hs : ∀ env, starEach [e, .Name t.s p1] env = (false, eval e env) :: starEach [.Name t.s p1] env := by intro _; rfl) : SE Γ (.Call (.Name "isinstance" p0) [e, .Name t.s p1] [] pos) (.isi t i) := fun X p o =>
  PE_weak (pe_callB call_isi (o.gl hg) (o.bl _ (List.contains_iff_mem.mp hb)) (by decide +kernel) (pa_cons (h X p o) (pa_cons (pe_bltn (v := .ty t.n) (o.gl htg) (o.bl _ (List.contains_iff_mem.mp ht)) (ty_blt t) rfl (ty_db t).1 (ty_db t).2) pa_nil rfl) (hs _)) (by decide) (by decide) (hs _) rfl) fun σ H Q q => by
    rw [o.K]
    obtain ⟨st, B, M, F, env, d, st', r, he, k⟩ := q
    unfold ev at he
    split at he
    · rename_i x st1 e1
      cases he
      refine ⟨st, B, M, F, env, x, _, r, e1, fun v B' H' x1 r' pv => ?_⟩
      obtain ⟨a, h1, h2⟩ := ty_of r'.bs.b pv
      exact ⟨v, .ty t.n, .type a, .type t.n, _, rfl, .ty _, h1, kit_ty (h2 t), k _ B' H' x1 r' (.bl _)⟩
    · cases he
end
end Ip

set_option Elab.async false
set_option linter.all false
set_option maxRecDepth 100000
set_option maxHeartbeats 4000000
/-! The defs of a text together; the pool's making; the law. -/
namespace Ip
open PySem L2
/-- a def as it stands behind the top -/
def Hv (K : PySem.W.Frag) (mg : Str → Option Value) (x : Str) (st : Stmt) (ps : List Str) : Prop := ∃ fa fd dvs, FunD K x x (defArgs st) (defBody st) (defScope st) dvs [] fa fd ∧ mg x = some (.ref fa) ∧ Binds K fd ps []
/-- the same where the last parameters have defaults -/
def HvD (K : PySem.W.Frag) (mg : Str → Option Value) (x : Str) (st : Stmt) (ps : List Str) (cs : List Cst) : Prop := ∃ fa fd dvs us, FunD K x x (defArgs st) (defBody st) (defScope st) dvs [] fa fd ∧ mg x = some (.ref fa) ∧ Binds K fd ps us ∧ Vals (cs.map Cst.v) us
def runI (n : Nat) (cl : Cl) (I : IF) (as : List (Option D)) (st : Pl) : Option (D × Pl) := if as.length = n then runF cl I as st else none
def noCl : Cl := fun _ _ _ => none
section
variable {P : Program} {w : World} {K : PySem.W.Frag} {mg : Str → Option Value} {base : Heap}
theorem fo_zero {k : Nat} {f : Str} {st : Stmt} {ps : List Str} (h : Hv K mg f st ps) : Fo P w K mg base k noCl f := by
  obtain ⟨fa, fd, dvs, F, hm, hb⟩ := h
  have no : ∀ vs H Q E, ¬ spF K noCl f vs H Q E := fun vs H Q E q => by
    obtain ⟨_, _, _, _, _, _, _, _, _, _, e, _⟩ := q
    cases e
  exact ⟨fa, fd, ps, ⟨fun vs H Q E q => (no _ _ _ _ q).elim, fun A outer s H args us vs Q E _ _ _ _ q => (no _ _ _ _ q).elim⟩, hm, F.kp, hb⟩
theorem foh_zero {k : Nat} {f : Str} {st : Stmt} {ps : List Str} (h : Hv K mg f st ps) : FoH P w K mg base k noCl f := by
  obtain ⟨fa, fd, dvs, F, hm, hb⟩ := h
  have no : ∀ vs H Q E, ¬ spF K noCl (hotN f) vs H Q E := fun vs H Q E q => by
    obtain ⟨_, _, _, _, _, _, _, _, _, _, e, _⟩ := q
    cases e
  exact ⟨fa, fd, ps, ⟨fun vs H Q E q => (no _ _ _ _ q).elim, fun A outer s H args us vs Q E _ _ _ _ _ _ _ q => (no _ _ _ _ q).elim⟩, hm, F.kp, hb⟩
theorem fog_zero {k : Nat} {es : List (Str × Str)} {f : Str} {st : Stmt} {ps : List Str} (h : Hv K mg f st ps) : FoG P w K mg base k es noCl f := by
  obtain ⟨fa, fd, dvs, F, hm, hb⟩ := h
  have no : ∀ vs H Q E, ¬ spG mg es K noCl f vs H Q E := fun vs H Q E q => by
    obtain ⟨_, _, _, _, _, _, _, _, q⟩ := q
    rcases q with ⟨_, _, e, _⟩ | ⟨_, _, _, e, _⟩
    · cases e
    · cases e
  exact ⟨fa, fd, ps, ⟨fun vs H Q E q => (no _ _ _ _ q).elim, fun A outer s H args us vs Q E _ _ _ _ q => (no _ _ _ _ q).elim⟩, hm, F.kp, hb⟩
theorem runI_of {n : Nat} {cl : Cl} {I : IF} {as : List (Option D)} {s : Pl} {d : D} {s' : Pl} (e : runI n cl I as s = some (d, s')) : as.length = n ∧ runF cl I as s = some (d, s') := by
  unfold runI at e
  split at e
  · rename_i hl
    exact ⟨hl, e⟩
  · cases e
theorem fo_step {k : Nat} {f : Str} {st : Stmt} {N ps : List Str} {Γ : Gam} {I : IF} {cl : Cl} (h : Hv K mg f st ps) (S : FnScope N ps (defScope st)) (hh : Γ.hot = false) (hK : Γ.K = K) (hN : Γ.N = N) (hsc : Γ.sc = defScope st) (hb : SSs Γ (defBody st) I.body) (hn : I.n = N.length)
    (hcl : ∀ as s, cl f as s = runI ps.length Γ.cl I as s) (a : Av P w K mg base k Γ) (hio : Γ.io = none := by rfl) (hfr : Γ.fr = false := by rfl) : Fo P w K mg base (k + 1) cl f := by
  obtain ⟨fa, fd, dvs, F, hm, hbn⟩ := h
  refine ⟨fa, fd, ps, fn_ok F S hh hK hN hsc hb hn (fun as s d s' e => ?_) a hio hfr, hm, F.kp, hbn⟩
  rw [hcl] at e
  exact runI_of e
theorem foh_step {k : Nat} {f : Str} {st : Stmt} {N ps : List Str} {Γ : Gam} {I : IF} {cl : Cl} (h : Hv K mg f st ps) (S : FnScope N ps (defScope st)) (hh : Γ.hot = true) (hK : Γ.K = K) (hN : Γ.N = N) (hsc : Γ.sc = defScope st) (hb : SSs Γ (defBody st) I.body) (hn : I.n = N.length)
    (hcl : ∀ as s, cl (hotN f) as s = runI ps.length Γ.cl I as s) (a : Av P w K mg base k Γ) (hio : Γ.io = none := by rfl) (hfr : Γ.fr = false := by rfl) : FoH P w K mg base (k + 1) cl f := by
  obtain ⟨fa, fd, dvs, F, hm, hbn⟩ := h
  refine ⟨fa, fd, ps, fnh_ok F S hh hK hN hsc hb hn (fun as s d s' e => ?_) a hio hfr, hm, F.kp, hbn⟩
  rw [hcl] at e
  exact runI_of e
/-! ### the pool's making -/
def spPool (K : PySem.W.Frag) : Sp := fun vs H Q _ => ∃ (a : Addr) (ns : List Int), vs = [.ref a] ∧ SqL K H a (ns.map V.int) ∧ ∀ q p, H q = none → H p = none → p ≠ q → Q (.ref p) (upd (upd H q (.lst (ns.map V.int))) p (.lst [.ref q, .int 0, .int 0, .int 0, .int 0]))
theorem pool_ok {x qual : Str} {params : Arguments} {body : List Stmt} {scope : Scope} {f : Addr} {fd : FuncData} {y : Str} {p0 p1 p2 p3 p4 : Pos} {j1 j2 j3 j4 : Nat} {q1 q2 q3 q4 : Pos} (F : FunD K x qual params body scope [] [] f fd) (S : FnScope [y] [y] scope)
    (hb : body = [.Return (some (.List [.Call (.Name "list" p0) [.Name y p1] [] p2, .Constant (.int 0) j1 q1, .Constant (.int 0) j2 q2, .Constant (.int 0) j3 q3, .Constant (.int 0) j4 q4] p3)) p4])
    (hl : mg "list" = none) (hg : GlS scope "list") (hy : Vis scope y) (h1 : (y == ("__debug__" : Str)) = false) (h2 : (y == ("__classdict__" : Str)) = false) : FnOk P w K mg base (L2N.CX P w) 1 f fd [y] (spPool K) := by
  subst hb
  refine F.ok S (fun vs H Q E h => ?_) (fun cdv A outer s H vs Q E hr h => ?_)
  · obtain ⟨a, ns, rfl, _⟩ := h
    rfl
  · obtain ⟨a, ns, rfl, hs, k⟩ := h
    refine ⟨_, pss_one (ps_ret (pe_lst (pa_cons (pe_callTy call_list_of hg hl (by decide +kernel) (pa_cons (pe_var (i := 0) rfl hy h1 h2) pa_nil) (by decide) (by decide)) (pa_cons pe_int (pa_cons pe_int (pa_cons pe_int (pa_cons pe_int pa_nil))))))), ?_⟩
    refine ⟨_, rfl, a, _, rfl, .inl hs, fun q hq => ⟨by show 5 ≤ sizeLine; decide, fun p hp => ?_⟩⟩
    have hpq : p ≠ q := fun e => by
      rw [e, upd_same] at hp
      cases hp
    rw [upd_ne hpq] at hp
    exact k q p hq hp hpq
/-! ### the law -/
def spLaw (K : PySem.W.Frag) : Sp := fun vs H Q _ => ∃ (a : Addr) (ns : List Int), vs = [.ref a] ∧ SqL K H a (ns.map V.int) ∧ ns.length ≤ 63 ∧ LamX.Tabs (tabK K) H ∧ ∀ H', Q (.bl true) H'
def pl0 (ns : List Int) : Pl := ⟨ns, 0, 0, 0, 0, []⟩
/-- what the law's rows behind the pool's come to, at a script -/
def lawRun (cl : Cl) (n : Nat) (b : ISs) (ns : List Int) : Option Out := evSs cl b (.no :: .pl :: List.replicate (n - 2) .no) (pl0 ns)
theorem PSs_ex {X : Cx} {ss : List Stmt} {t : Pa → TS} {K : PySem.W.Frag} (h : ∀ p : Pa, Std K p → PSs X ss (t p)) : PSs X ss (fun D σ H => ∃ p : Pa, Std K p ∧ t p D σ H) := ⟨fun pins s σ H D I q => by
  obtain ⟨p, hp, q⟩ := q
  exact (h p hp).run pins s σ H D I q⟩
theorem law_ok {x qual : Str} {params : Arguments} {scope : Scope} {f : Addr} {fd : FuncData} {y z pn : Str} {N : List Str} {k : Nat} {Γ : Gam} {I : IF} {rest : List Stmt} {p0 p1 p2 p3 p4 : Pos} {fp : Addr} {fdp : FuncData} {yp : Str}
    (F : FunD K x qual params (.Assign [.Name z p0] (.Call (.Name pn p1) [.Name y p2] [] p3) p4 :: rest) scope [] [] f fd) (S : FnScope (y :: z :: N) [y] scope)
    (hh : Γ.hot = false) (hK : Γ.K = K) (hN : Γ.N = y :: z :: N) (hsc : Γ.sc = scope) (hb : SSs Γ rest I.body) (hn : I.n = N.length + 2) (av : Av P w K mg base (k + 1) Γ)
    (Fp : FnOk P w K mg base (L2N.CX P w) 1 fp fdp [yp] (spPool K)) (hp : mg pn = some (.ref fp)) (hkp : PySem.W.keepIn K (.ref fp) = true) (hbp : Binds K fdp [yp] []) (hgp : GlS scope pn) (hy : Vis scope y) (hz : Loc scope z)
    (hd : (pn == ("__debug__" : Str)) = false) (h1 : (y == ("__debug__" : Str)) = false) (h2 : (y == ("__classdict__" : Str)) = false)
    (true_ : ∀ ns : List Int, ns.length ≤ 63 → ∃ st, lawRun Γ.cl I.n I.body ns = some (.rt (.bool true) st)) (hio : Γ.io = none := by rfl) (hfr : Γ.fr = false := by rfl) : FnOk P w K mg base (L2N.CX P w) (k + 2) f fd [y] (spLaw K) := by
  refine F.ok S (fun vs H Q E h => ?_) (fun cdv A outer s H vs Q E hr h => ?_)
  · obtain ⟨a, ns, rfl, _⟩ := h
    rfl
  · obtain ⟨a, ns, rfl, hs, hl, htab, kk⟩ := h
    refine ⟨_, pss_cons (ps_set (i := 1) S.nd rfl hz (pe_call Fp (hr.mono (by omega)) hgp hp hkp hbp .nil passN (pa_cons (pe_var (i := 0) rfl hy h1 h2) pa_nil) hd)) (PSs_ex fun p hp => hb _ p (av.oks hh hK hN S.nd hsc hp.lk (by rw [hp.io, hio]; rfl) (hp.fr.trans hfr.symm) hp.tb hr)), ?_⟩
    refine ⟨_, rfl, a, ns, rfl, hs, fun q p hq hp hpq => ?_⟩
    obtain ⟨st, ht⟩ := true_ ns hl
    unfold lawRun at ht
    rw [hn] at ht
    have ht' : evSs Γ.cl I.body (.no :: .pl :: List.replicate N.length .no) (pl0 ns) = some (.rt (.bool true) st) := ht
    rw [hK]
    refine ⟨⟨p, q, noLk, none, false, fun _ => none, tabK K⟩, ⟨rfl, rfl, rfl, rfl⟩, pl0 ns, upd (fun _ => none) q (.lst (ns.map V.int)), fun _ => none, fun _ => none, .no :: .pl :: List.replicate N.length .no, _, ?_, ht', fun v B' H' x r pv => ?_⟩
    · refine ⟨⟨fun c u e => ?_, fun c u e => by (cases e), fun c u e => by (cases e), rfl, ?_, ⟨upd_same, upd_same⟩, ⟨fun k c e => by (cases e), fun k c e => by (cases e), fun j k c e => by (cases e), fun t ht => ⟨upd_ne (fun e => by obtain ⟨ps, g1, _⟩ := htab t ht; rw [e, hq] at g1; cases g1), rfl⟩, tabs_new (tabs_new htab hq) (by rw [upd_ne hpq]; exact hp)⟩⟩, fun c u e => by (cases e), fun c u e => by (cases e), fun k c e => by (cases e), fun _ _ => rfl, ?_⟩
      · by_cases hc : c = q
        · subst hc
          rw [upd_same] at e
          rw [← e, upd_ne hpq.symm, upd_same]
        · rw [upd_ne hc] at e
          cases e
      · rw [upd_ne hpq]
      · refine ⟨?_, fun i s hi => ?_, fun i j ds es b hi _ _ _ => ?_, fun i b ds z _ => by cases z⟩
        · simp [L2.start]
        · match i, hi with
          | 0, hi =>
            cases hi
            exact ⟨some (.ref a), rfl, True.intro⟩
          | 1, hi =>
            cases hi
            exact ⟨some (.ref p), rfl, rfl⟩
          | i + 2, hi =>
            have hi2 : (List.replicate N.length Sl.no)[i]? = some s := hi
            rw [List.getElem?_replicate] at hi2
            split at hi2
            · rename_i hlt
              cases hi2
              refine ⟨none, ?_, True.intro⟩
              show (List.replicate N.length (none : Option V))[i]? = some none
              rw [List.getElem?_replicate, if_pos hlt]
            · cases hi2
        · match i, hi with
          | 0, hi => cases hi
          | 1, hi => cases hi
          | i + 2, hi =>
            have hi2 : (List.replicate N.length Sl.no)[i]? = some (.ow ds) := hi
            rw [List.getElem?_replicate] at hi2
            split at hi2 <;> cases hi2
    · have pv : Rp K B' v (.bool true) := pv
      cases pv
      exact kk H'
/-- a def that lets nothing out -/
theorem quiet_fn {k : Nat} {f : Addr} {fd : FuncData} {ps : List Str} {sp : Sp} (F : FnOk P w K mg base (L2N.CX P w) k f fd ps sp) (h : ∀ vs H Q E, sp vs H Q E → sp vs H Q E0) : FnOk P w K mg base CX0 k f fd ps sp :=
  ⟨F.len, fun A outer s H args us vs Q E hr e0 hb hv hs => codeAny_mono (F.run A outer s H args us vs Q E0 hr e0 hb hv (h _ _ _ _ hs)) fun r s' q => by
    cases r with
    | ok fl => cases fl <;> exact q
    | error e =>
      obtain ⟨_, _, _, _, _, _, _, _, _, _, _, _, z⟩ := q
      exact z.elim⟩
end
end Ip

set_option Elab.async false
set_option linter.all false
set_option maxRecDepth 100000
set_option maxHeartbeats 4000000
namespace Ip
open PySem L2
inductive SJ (Γ : Gam) : List Expr → IEs → Prop
  | nil : SJ Γ [] .nil
  | lit {y : Str} {j : Nat} {p0 : Pos} {es : List Expr} {ies : IEs} (t : SJ Γ es ies) (hy : y.length ≤ most) : SJ Γ (.Constant (.str y) j p0 :: es) (.cons (.cst (.str y)) ies)
  | fmt {p0 : Pos} {e : Expr} {i : IE} {es : List Expr} {ies : IEs} (h : SE Γ e i) (t : SJ Γ es ies) : SJ Γ (.FormattedValue e (-1) none p0 :: es) (.cons i ies)
  | spc {sp : Str} {e : Expr} {i : IE} {es : List Expr} {ies : IEs} (h : SE Γ e (.fmt sp i)) (t : SJ Γ es ies) : SJ Γ (e :: es) (.cons (.fmt sp i) ies)
section
variable {Γ : Gam} {e a b c : Expr} {es : List Expr} {ia ib ic i : IE} {ies : IEs} {pos p0 p1 p2 p3 : Pos} {x : Str} {s : Stmt}
/-! ### what is never reached -/
theorem stop_se : SE Γ e .stop := fun X p o => ⟨fun pins s σ H Q I q => by
  obtain ⟨st, B, M, F, env, d, st', r, he, k⟩ := q
  unfold ev at he
  cases he⟩
theorem stop_st : ST Γ e .stop := fun X p o => ⟨fun pins s σ H Q I q => by
  obtain ⟨st, B, M, F, env, d, st', r, he, k⟩ := q
  unfold ev at he
  cases he⟩
theorem ss_stop : SS Γ s .stop := fun X p o => ⟨fun pins s σ H D I q => by
  obtain ⟨st, B, M, F, env, out, r, he, k⟩ := q
  unfold evS at he
  cases he⟩
/-! ### a < b < c -/
theorem tx_chn {K : PySem.W.Frag} {cl : Cl} {op op' : CmpOp} {o1 o2 : Cop} {σ : L2.St} {H : Hp} {Q : VK} (C : CmpOk op o1) (C' : CmpOk op' o2) (q : Tx K cl p (.chn o1 o2 ia ib ic) σ H Q) :
    tChain (C.r K) (C'.r K) (Tx K cl p ia) (Tx K cl p ib) (Tx K cl p ic) σ H Q := by
  obtain ⟨st, B, M, F, env, d, st', r, he, k⟩ := q
  unfold ev at he
  cases e1 : ev cl ia env st with
  | none =>
    rw [e1] at he
    cases he
  | some xs =>
    obtain ⟨x, st1⟩ := xs
    rw [e1] at he
    cases e2 : ev cl ib env st1 with
    | none =>
      simp only [e2] at he
      cases he
    | some ys =>
      obtain ⟨y, st2⟩ := ys
      simp only [e2] at he
      cases e3 : cmpD o1 x y with
      | none =>
        rw [e3] at he
        cases he
      | some z =>
        rw [e3] at he
        refine ⟨st, B, M, F, env, x, st1, r, e1, fun v B1 H1 x1 r1 p1 => ⟨st1, B1, M, F, env, y, st2, r1, e2, fun u B2 H2 x2 r2 p2 => C.rd r2 (p1.mono x2) p2 e3 _ ⟨z, rfl, ?_⟩⟩⟩
        cases z with
        | false =>
          cases he
          rw [if_neg (by decide)]
          exact k _ B2 H2 (x1.trans x2) r2 (.bl _)
        | true =>
          rw [if_pos rfl]
          cases e4 : ev cl ic env st2 with
          | none =>
            simp only [e4] at he
            cases he
          | some zs =>
            obtain ⟨z, st3⟩ := zs
            simp only [e4] at he
            obtain ⟨w, e5, e6⟩ := Option.map_eq_some_iff.mp he
            cases e6
            exact ⟨st2, B2, M, F, env, z, _, r2, e4, fun t B3 H3 x3 r3 p3 => C'.rd r3 (p2.mono x3) p3 e5 _ (k _ B3 H3 ((x1.trans x2).trans x3) r3 (.bl _))⟩
theorem chn_se {op op' : CmpOp} {o1 o2 : Cop} (C : CmpOk op o1) (C' : CmpOk op' o2) (ha : SE Γ a ia) (hb : SE Γ b ib) (hc : SE Γ c ic) (hm : lastMarks [op, op'] [b, c] = false := by with_unfolding_all rfl) :
    SE Γ (.Compare a [op, op'] [b, c] pos) (.chn o1 o2 ia ib ic) := fun X p ok =>
  PE_weak (pe_chain (C.ok X (by have := ok.units; omega)) (C'.ok X (by have := ok.units; omega)) (ha X p ok) (hb X p ok) (hc X p ok) hm) fun σ H Q q => by
    rw [ok.K]
    exact tx_chn C C' q
/-! ### all, any of a list of truths -/
theorem bools_rp {K : PySem.W.Frag} {B : Hp} : ∀ {ds : List D} {vs : List V} {bs : List Bool}, RpA K B vs ds → boolsD ds = some bs → vs = bs.map V.bl
  | [], _, bs, .nil, h => by
    cases h
    rfl
  | d :: ds, _, bs, .cons hv r, h => by
    cases d with
    | bool b =>
      obtain ⟨bs', e1, e2⟩ := Option.map_eq_some_iff.mp (show (boolsD ds).map (fun bs => b :: bs) = some bs from h)
      subst e2
      cases hv
      rw [bools_rp r e1]
      rfl
    | _ => cases h
theorem all_se (h : SE Γ e i) (hh : Γ.hot = false := by rfl) (hb : Γ.bs.contains "all" = true := by rfl) (hg : GlS Γ.sc "all" := by rfl) (hs : ∀ env, starEach [e] env = (false, eval e env) :: starEach [] env := by intro _; rfl) :
    SE Γ (.Call (.Name "all" p0) [e] [] pos) (.bi .all (.cons i .nil)) := fun X p o =>
  PE_weak (pe_callB (cr_all (o.calm hh)) (o.gl hg) (o.bl _ (List.contains_iff_mem.mp hb)) (by decide +kernel) ((sa_cons h sa_nil hs) X p o) (by decide) (by decide) (hs _) rfl) fun σ H Q q => by
    refine tx_bi ?_ q
    intro st B M F env v d z H r pv e2 Q k
    rw [o.K]
    cases pv with
    | @lst a xs ds hx rx =>
      obtain ⟨bs, e3, e4⟩ := Option.map_eq_some_iff.mp (show (boolsD ds).map (fun bs => PyData.bool (bs.all id)) = some z from e2)
      subst e4
      rw [bools_rp rx e3] at hx
      exact ⟨a, bs, rfl, Or.inl (Or.inl (r.bs.b _ _ hx)), k _ B H (Ex.refl B) r (.bl _)⟩
    | _ => cases e2
theorem any_se (h : SE Γ e i) (hh : Γ.hot = false := by rfl) (hb : Γ.bs.contains "any" = true := by rfl) (hg : GlS Γ.sc "any" := by rfl) (hs : ∀ env, starEach [e] env = (false, eval e env) :: starEach [] env := by intro _; rfl) :
    SE Γ (.Call (.Name "any" p0) [e] [] pos) (.bi .any (.cons i .nil)) := fun X p o =>
  PE_weak (pe_callB (cr_any (o.calm hh)) (o.gl hg) (o.bl _ (List.contains_iff_mem.mp hb)) (by decide +kernel) ((sa_cons h sa_nil hs) X p o) (by decide) (by decide) (hs _) rfl) fun σ H Q q => by
    refine tx_bi ?_ q
    intro st B M F env v d z H r pv e2 Q k
    rw [o.K]
    cases pv with
    | @lst a xs ds hx rx =>
      obtain ⟨bs, e3, e4⟩ := Option.map_eq_some_iff.mp (show (boolsD ds).map (fun bs => PyData.bool (bs.any id)) = some z from e2)
      subst e4
      rw [bools_rp rx e3] at hx
      exact ⟨a, bs, rfl, Or.inl (Or.inl (r.bs.b _ _ hx)), k _ B H (Ex.refl B) r (.bl _)⟩
    | _ => cases e2
/-! ### xs[::-1] -/
theorem RpA.rev {K : PySem.W.Frag} {B : Hp} : ∀ {vs : List V} {ds : List D}, RpA K B vs ds → RpA K B vs.reverse ds.reverse
  | _, _, .nil => .nil
  | _, _, .cons h r => by
    rw [List.reverse_cons, List.reverse_cons]
    exact (RpA.rev r).append (.one h)
theorem rev_se {k : Nat} (h : SE Γ e i) : SE Γ (.Subscript e (.Slice none none (some (.UnaryOp .USub (.Constant (.int 1) k p1) p2)) p3) pos) (.rev i) := fun X p o => PE_weak (pe_revL (h X p o)) fun σ H Q q => by
  rw [o.K]
  obtain ⟨st, B, M, F, env, d, st', r, he, kk⟩ := q
  unfold ev at he
  split at he
  · rename_i xs st1 e1
    cases he
    refine ⟨st, B, M, F, env, .list xs, _, r, e1, fun v B1 H1 x1 r1 p1 => ?_⟩
    cases p1 with
    | @lst a vs ds hx rx =>
      exact ⟨a, vs, rfl, Or.inl (Or.inl (r1.bs.b _ _ hx)), fun q hq => kk (.ref q) _ _ (x1.trans (Ex.new (r1.bs.b.free hq))) (r1.new hq) (.lst upd_same (rx.rev.mono (Ex.new (r1.bs.b.free hq))))⟩
  · cases he
/-! ### x += e, over ints -/
theorem ss_aug_int {op : Operator} {o : Bop} {f : Int → Int → Int} (j : Nat) (hop : ∀ X : Cx, PIp X op (ipI f)) (hd : ∀ m n d, binD o (.int m) (.int n) = some d → d = .int (f m n)) (h : SE Γ e i) (hN : Γ.N[j]? = some x) (hl : Loc Γ.sc x) :
    SS Γ (.AugAssign (.Name x p0) op e pos) (.aug j o i) := fun X p ok =>
  PS_weak (ps_aug (i := j) (by rw [ok.N]; exact ok.nd) (by rw [ok.N]; exact hN) (by rw [ok.sc]; exact hl) (h X p ok.toOkx) (hop X) (.inl (ok.fnx x))) fun D σ H q => by
    obtain ⟨st, B, M, F, env, out, r, he, k⟩ := q
    unfold evS at he
    split at he
    · rename_i m e0
      obtain ⟨ov, h1, h2⟩ := r.en.at_ j _ e0
      cases ov with
      | none => exact h2.elim
      | some v =>
        cases h2
        refine ⟨_, h1, ?_⟩
        split at he
        · rename_i n st1 e1
          split at he
          · rename_i d e2
            cases he
            refine ⟨st, B, M, F, env, .int n, st1, r, e1, fun v B' H' x1 r' pv => ?_⟩
            cases pv
            obtain rfl := hd _ _ _ e2
            exact ⟨m, n, rfl, rfl, k B' M _ H' x1 (r'.set (.int _) j)⟩
          · cases he
        · cases he
    · cases he
theorem ss_augAdd (j : Nat) (h : SE Γ e i) (hN : Γ.N[j]? = some x := by rfl) (hl : Loc Γ.sc x := by first | exact Or.inl rfl | exact Or.inr rfl) : SS Γ (.AugAssign (.Name x p0) .Add e pos) (.aug j .add i) :=
  ss_aug_int j (fun _ => ip_add) (fun m n d h => (Option.some.inj h).symm) h hN hl
theorem ss_augSub (j : Nat) (h : SE Γ e i) (hN : Γ.N[j]? = some x := by rfl) (hl : Loc Γ.sc x := by first | exact Or.inl rfl | exact Or.inr rfl) : SS Γ (.AugAssign (.Name x p0) .Sub e pos) (.aug j .sub i) :=
  ss_aug_int j (fun _ => ip_sub) (fun m n d h => (Option.some.inj h).symm) h hN hl
/-! ### f-strings -/
theorem sj_run {X : Cx} {p : Pa} (o : Okx Γ X p) : ∀ {es : List Expr} {ies : IEs}, SJ Γ es ies → ∃ ts, PJ X es ts ∧ ∀ {st B M F env ds st' acc out} {σ : L2.St} {H : Hp} (Q : Str → Hp → Prop), Rel Γ.K p st B M F env σ H → ea Γ.cl ies env st = some (ds, st') → joinD ds acc = some out →
    (∀ B' H', Ex B B' → Rel Γ.K p st' B' M F env σ H' → Q out H') → tJs ts acc σ H Q
  | _, _, .nil => ⟨[], .nil, fun {st B M F env ds st' acc out σ H} Q r he hj k => by
    unfold ea at he
    cases he
    cases hj
    exact k B H (Ex.refl B) r⟩
  | _, _, .lit (y := y) t hy => by
    obtain ⟨ts, h1, h2⟩ := sj_run o t
    refine ⟨_, .cons pe_str h1, fun {st B M F env ds st' acc out σ H} Q r he hj k => ?_⟩
    unfold ea at he
    unfold ev at he
    split at he
    · rename_i z st1 e1
      cases e1
      split at he
      · rename_i zs st2 e2
        cases he
        unfold joinD partD at hj
        simp only [Cst.d, if_pos hy] at hj
        split at hj
        · rename_i hl
          exact ⟨y, rfl, most_line hl, h2 Q r e2 hj k⟩
        · cases hj
      · cases he
    · cases he
  | _, _, .fmt h t => by
    obtain ⟨ts, h1, h2⟩ := sj_run o t
    refine ⟨_, .cons (pe_fmt (h X p o)) h1, fun {st B M F env ds st' acc out σ H} Q r he hj k => ?_⟩
    unfold ea at he
    split at he
    · rename_i z st1 e1
      split at he
      · rename_i zs st2 e2
        cases he
        refine ⟨st, B, M, F, env, z, st1, r, e1, fun v B1 H1 x1 r1 p1 => ?_⟩
        unfold joinD at hj
        cases p1 with
        | str y =>
          by_cases hy : y.length ≤ most
          · simp only [partD, if_pos hy] at hj
            split at hj
            · rename_i hl
              exact .inl ⟨y, rfl, most_line hy, y, rfl, most_line hl, h2 Q r1 e2 hj fun B' H' x2 r2 => k B' H' (x1.trans x2) r2⟩
            · cases hj
          · simp only [partD, if_neg hy] at hj
            cases hj
        | int n =>
          by_cases hn : n.natAbs.log2 < 1920
          · simp only [partD, if_pos hn] at hj
            split at hj
            · rename_i hl
              exact .inr ⟨n, rfl, hn, _, rfl, most_line hl, h2 Q r1 e2 hj fun B' H' x2 r2 => k B' H' (x1.trans x2) r2⟩
            · cases hj
          · simp only [partD, if_neg hn] at hj
            cases hj
        | _ => simp only [partD] at hj; cases hj
      · cases he
    · cases he
  | _, _, .spc (sp := sp) (i := i) h t => by
    obtain ⟨ts, h1, h2⟩ := sj_run o t
    refine ⟨_, .cons (h X p o) h1, fun {st B M F env ds st' acc out σ H} Q r he hj k => ?_⟩
    unfold ea at he
    split at he
    · rename_i z st1 e1
      split at he
      · rename_i zs st2 e2
        cases he
        have hz : ∃ y, z = .str y := by
          have e3 := e1
          unfold ev at e3
          split at e3
          · obtain ⟨y, _, e4⟩ := Option.map_eq_some_iff.mp e3
            cases e4
            exact ⟨y, rfl⟩
          · cases e3
        obtain ⟨y, rfl⟩ := hz
        refine ⟨st, B, M, F, env, _, st1, r, e1, fun v B1 H1 x1 r1 p1 => ?_⟩
        unfold joinD at hj
        cases p1
        by_cases hy : y.length ≤ most
        · simp only [partD, if_pos hy] at hj
          split at hj
          · rename_i hl
            exact ⟨y, rfl, most_line hl, h2 Q r1 e2 hj fun B' H' x2 r2 => k B' H' (x1.trans x2) r2⟩
          · cases hj
        · simp only [partD, if_neg hy] at hj
          cases hj
      · cases he
    · cases he
/-- {x:..} -/
theorem fmt_se {e : Expr} {i : IE} {sp : Str} {j : Nat} {p1 p2 p3 : Pos} (h : SE Γ e i) (hl : sp.length ≤ 1000 := by decide) : SE Γ (.FormattedValue e (-1) (some (.JoinedStr [.Constant (.str sp) j p1] p2)) p3) (.fmt sp i) := fun X p o =>
  PE_weak (pe_fmtS (h X p o) (pe_joined1 pe_str) hl) fun σ H Q q => by
    obtain ⟨st, B, M, F, env, d, st', r, he, k⟩ := q
    unfold ev at he
    split at he
    · rename_i z st1 e1
      obtain ⟨y, e2, e3⟩ := Option.map_eq_some_iff.mp he
      cases e3
      refine ⟨st, B, M, F, env, z, _, r, e1, fun v B1 H1 x1 r1 p1 => ?_⟩
      unfold fmtD at e2
      cases p1 with
      | int n =>
        obtain ⟨⟨h1, h2⟩, rfl⟩ := ite_some e2
        exact .inl ⟨n, rfl, h2, h1, k _ B1 H1 x1 r1 (.str _)⟩
      | str z =>
        have e2 : (if z.length ≤ most then strSpc sp z else none) = some y := e2
        split at e2
        · rename_i hz
          exact .inr ⟨z, y, rfl, most_line hz, e2, k _ B1 H1 x1 r1 (.str _)⟩
        · cases e2
      | _ => cases e2
    · cases he
theorem jo1_se {e : Expr} {i : IE} {pos : Pos} (h : SE Γ e i) : SE Γ (.JoinedStr [e] pos) i := fun X p o => pe_joined1 (h X p o)
theorem js_se {e1 e2 : Expr} (h : SJ Γ (e1 :: e2 :: es) ies) : SE Γ (.JoinedStr (e1 :: e2 :: es) pos) (.js ies) := fun X p o => by
  obtain ⟨ts, h1, h2⟩ := sj_run o h
  refine PE_weak (pe_joined h1) fun σ H Q q => ?_
  obtain ⟨st, B, M, F, env, d, st', r, he, k⟩ := q
  unfold ev at he
  split at he
  · rename_i ds st1 e1
    obtain ⟨out, e3, e4⟩ := Option.map_eq_some_iff.mp he
    cases e4
    exact h2 _ r e1 e3 fun B' H' x r' => k _ B' H' x r' (.str _)
  · cases he
end
end Ip

set_option Elab.async false
set_option linter.all false
set_option maxRecDepth 100000
set_option maxHeartbeats 4000000
namespace Ip
open PySem L2
/-! What may raise: expressions. -/
def Txx (W : WX) (mg : Str → Option Value) (Γ : Gam) (p : Pa) (i : IE) : TE := fun σ H Q => ∃ st B M F env, Rel Γ.K p st B M F env σ H ∧
  ((∃ d st', ev Γ.cl i env st = some (d, st') ∧ ∀ v B' H', Ex B B' → Rel Γ.K p st' B' M F env σ H' → Rp Γ.K B' v d → Q v H') ∨
   (∃ er st', xv Γ.cl i env st = some (er, st') ∧ ∀ cls d B' H', Ex B B' → Rel Γ.K p st' B' M F env σ H' → Raised mg Γ.es Γ.K p B' (uni M F) er cls d H' → W cls (some d) σ H'))
def SX (Γ : Gam) (e : Expr) (i : IE) : Prop := ∀ X p W, Okx Γ X p → L2N.Takes X W → PE X e (Txx W X.mg Γ p i)
section
variable {Γ : Gam} {e a b c : Expr} {es : List Expr} {ia ib ic i : IE} {ies : IEs} {pos p0 : Pos} {x : Str} {W : WX} {mg : Str → Option Value}
theorem Txx.ok {σ : L2.St} {H : Hp} {Q : VK} (q : Tx Γ.K Γ.cl p i σ H Q) : Txx W mg Γ p i σ H Q := by
  obtain ⟨st, B, M, F, env, d, st', r, he, k⟩ := q
  exact ⟨st, B, M, F, env, r, .inl ⟨d, st', he, k⟩⟩
theorem Txx.mono {σ : L2.St} {H : Hp} {Q Q' : VK} (q : Txx W mg Γ p i σ H Q) (h : ∀ v H, Q v H → Q' v H) : Txx W mg Γ p i σ H Q' := by
  obtain ⟨st, B, M, F, env, r, q⟩ := q
  refine ⟨st, B, M, F, env, r, ?_⟩
  rcases q with ⟨d, st', he, k⟩ | q
  · exact .inl ⟨d, st', he, fun v B' H' x r' pv => h _ _ (k v B' H' x r' pv)⟩
  · exact .inr q
/-- what cannot raise -/
theorem sx_of (h : SE Γ e i) (hn : ∀ env st, xv Γ.cl i env st = none) : SX Γ e i := fun X p W o tk => PE_weak (h X p o) fun σ H Q q => by
  obtain ⟨st, B, M, F, env, r, q⟩ := q
  rcases q with ⟨d, st', he, k⟩ | ⟨er, st', he, _⟩
  · exact ⟨st, B, M, F, env, d, st', r, he, k⟩
  · rw [hn] at he
    cases he
theorem sx_call (h : SG Γ (e :: es) ies) (hh : Γ.hot = false := by rfl) (hf : Γ.xs.contains x = true := by rfl) (hg : GlS Γ.sc x := by rfl) (hdb : (x == ("__debug__" : Str)) = false := by decide)
    (he : ∀ env, starEach (e :: es) env = (false, eval e env) :: starEach es env := by intro _; rfl) (hpl : ∀ env, (backTo pos (starEach es env)).any (·.1) = false := by intro _; rfl) :
    SX Γ (.Call (.Name x p0) (e :: es) [] pos) (.call x ies) := fun X p W o tk => by
  obtain ⟨fa, fd, ps, k, F, hm, hk, hb, hr⟩ := o.xn hh x (List.contains_iff_mem.mp hf)
  refine PE_weak (pe_callS (E := WE W) F hr (o.gl hg) hm hk hb (fun σ => L2N.passAt tk σ) (h X p o) hdb (he _) (hpl _)) fun σ H Q q => ?_
  obtain ⟨st, B, M, F, env, r, q⟩ := q
  rcases q with ⟨d, st', he, k⟩ | ⟨er, st', he, k⟩
  · unfold ev at he
    cases e1 : ag Γ.cl ies env st with
    | none =>
      rw [e1] at he
      cases he
    | some ys =>
      obtain ⟨ys, st1⟩ := ys
      rw [e1] at he
      exact ⟨st, B, M, F, env, ys, st1, r, e1, fun vs B1 H1 x1 r1 p1 => ⟨p.o, st1, B1, uni M F, ys, ⟨rfl, rfl, rfl, o.tb⟩, r1.call.o, p1.o, .inl ⟨d, st', he, fun v B' H' x2 w pv => k v B' H' (x1.trans x2) (r1.back x2 w.u) pv⟩⟩⟩
  · unfold xv at he
    cases e1 : ag Γ.cl ies env st with
    | none =>
      rw [e1] at he
      cases he
    | some ys =>
      obtain ⟨ys, st1⟩ := ys
      simp only [e1] at he
      cases e2 : Γ.cl (bang x) ys st1 with
      | none =>
        rw [e2] at he
        cases he
      | some z =>
        obtain ⟨z, st2⟩ := z
        rw [e2] at he
        obtain ⟨er', e3, e4⟩ := Option.map_eq_some_iff.mp he
        cases e4
        exact ⟨st, B, M, F, env, ys, st1, r, e1, fun vs B1 H1 x1 r1 p1 => ⟨p.o, st1, B1, uni M F, ys, ⟨rfl, rfl, rfl, o.tb⟩, r1.call.o, p1.o, .inr ⟨z, _, _, e2, e3, fun cls d B' H' x2 w rz => k cls d B' H' (x1.trans x2) (r1.back x2 w.u) rz⟩⟩⟩
/-- two operands that may raise -/
theorem txx_two {r : R2} {σ : L2.St} {H : Hp} {Q : VK} {f : D → D → Option D} (hi : ∀ env st, ev Γ.cl i env st = (match ev Γ.cl ia env st with
    | some (x, st1) => (match ev Γ.cl ib env st1 with
      | some (y, st2) => (f x y).map fun d => (d, st2)
      | none => none)
    | none => none))
    (hx : ∀ env st, xv Γ.cl i env st = (match xv Γ.cl ia env st with
    | some r => some r
    | none => (match ev Γ.cl ia env st with
      | some (_, st1) => xv Γ.cl ib env st1
      | none => none)))
    (hr : ∀ {st B M F env x y z v u H}, Rel Γ.K p st B M F env σ H → Rp Γ.K B v x → Rp Γ.K B u y → f x y = some z → ∀ Q : VK, (∀ w B' H', Ex B B' → Rel Γ.K p st B' M F env σ H' → Rp Γ.K B' w z → Q w H') → r v u H Q)
    (q : Txx W mg Γ p i σ H Q) : tOp r (Txx W mg Γ p ia) (Txx W mg Γ p ib) σ H Q := by
  obtain ⟨st, B, M, F, env, rl, q⟩ := q
  rcases q with ⟨d, st', he, k⟩ | ⟨er, st', he, k⟩
  · rw [hi] at he
    cases e1 : ev Γ.cl ia env st with
    | none =>
      rw [e1] at he
      cases he
    | some xs =>
      obtain ⟨x, st1⟩ := xs
      rw [e1] at he
      cases e2 : ev Γ.cl ib env st1 with
      | none =>
        simp only [e2] at he
        cases he
      | some ys =>
        obtain ⟨y, st2⟩ := ys
        simp only [e2] at he
        obtain ⟨z, e3, e4⟩ := Option.map_eq_some_iff.mp he
        cases e4
        exact ⟨st, B, M, F, env, rl, .inl ⟨x, st1, e1, fun v B1 H1 x1 r1 p1 => ⟨st1, B1, M, F, env, r1, .inl ⟨y, _, e2, fun u B2 H2 x2 r2 p2 =>
          hr r2 (p1.mono x2) p2 e3 Q fun w B' H' x3 r3 p3 => k w B' H' ((x1.trans x2).trans x3) r3 p3⟩⟩⟩⟩
  · rw [hx] at he
    cases e1 : xv Γ.cl ia env st with
    | some w =>
      rw [e1] at he
      cases he
      exact ⟨st, B, M, F, env, rl, .inr ⟨er, st', e1, k⟩⟩
    | none =>
      rw [e1] at he
      cases e2 : ev Γ.cl ia env st with
      | none =>
        simp only [e2] at he
        cases he
      | some xs =>
        obtain ⟨x, st1⟩ := xs
        simp only [e2] at he
        exact ⟨st, B, M, F, env, rl, .inl ⟨x, st1, e2, fun v B1 H1 x1 r1 p1 => ⟨st1, B1, M, F, env, r1, .inr ⟨er, st', he, fun cls d B' H' x2 r2 z => k cls d B' H' (x1.trans x2) r2 z⟩⟩⟩⟩
theorem sx_cmp {op : CmpOp} {o : Cop} (C : CmpOk op o) (ha : SX Γ a ia) (hb : SX Γ b ib) (hm : behindInMarks op b = false) : SX Γ (.Compare a [op] [b] pos) (.cmp o ia ib) := fun X p W ok tk =>
  PE_weak (pe_cmpR (C.ok X (by have := ok.units; omega)) (ha X p W ok tk) (hb X p W ok tk) hm) fun σ H Q q => by
    rw [ok.K]
    refine txx_two (f := fun x y => (cmpD o x y).map PyData.bool) (fun env st => ?_) (fun env st => rfl) ?_ q
    · have e0 : ev Γ.cl (.cmp o ia ib) env st = (match ev Γ.cl ia env st with
        | some (x, st1) => (match ev Γ.cl ib env st1 with
          | some (y, st2) => (cmpD o x y).map fun d => (.bool d, st2)
          | none => none)
        | none => none) := id rfl
      rw [e0]
      cases ev Γ.cl ia env st with
      | none => rfl
      | some xs =>
        cases h : ev Γ.cl ib env xs.2 with
        | none => simp only [h]
        | some ys =>
          simp only [h]
          cases cmpD o xs.1 ys.1 <;> rfl
    · intro st B M F env x y z v u H r1 p1 p2 e Q k
      obtain ⟨w, e3, e4⟩ := Option.map_eq_some_iff.mp e
      subst e4
      exact C.rd r1 p1 p2 e3 Q (k _ B H (Ex.refl B) r1 (.bl _))
end
end Ip

set_option Elab.async false
set_option linter.all false
set_option maxRecDepth 100000
set_option maxHeartbeats 4000000
namespace Ip
open PySem L2
/-! What may raise: statements. -/
/-- what is wanted of an error that leaves a statement -/
def ErrK2 (W : WX) (mg : Str → Option Value) (Γ : Gam) (p : Pa) (B F : Hp) (er : Er) (env : List Sl) (st : Pl) : Prop := ∀ cls d B' M' σ' H', Ex B B' → Rel Γ.K p st B' M' F env σ' H' → Raised mg Γ.es Γ.K p B' (uni M' F) er cls d H' → W cls (some d) σ' H'
def TS1x (W : WX) (mg : Str → Option Value) (Γ : Gam) (p : Pa) (s : IS) : TS := fun D σ H => ∃ st B M F env, Rel Γ.K p st B M F env σ H ∧
  ((∃ o, evS Γ.cl s env st = some o ∧ OutK Γ.K p B F D o) ∨ (∃ er env1 st1, xvS Γ.cl s env st = some (er, env1, st1) ∧ ErrK2 W mg Γ p B F er env1 st1))
def TSsx (W : WX) (mg : Str → Option Value) (Γ : Gam) (p : Pa) (s : ISs) : TS := fun D σ H => ∃ st B M F env, Rel Γ.K p st B M F env σ H ∧
  ((∃ o, evSs Γ.cl s env st = some o ∧ OutK Γ.K p B F D o) ∨ (∃ er env1 st1, xvSs Γ.cl s env st = some (er, env1, st1) ∧ ErrK2 W mg Γ p B F er env1 st1))
def SSX (Γ : Gam) (s : Stmt) (i : IS) : Prop := ∀ X p W, Oks Γ X p → L2N.Takes X W → PS X s (TS1x W X.mg Γ p i)
def SSsX (Γ : Gam) (s : List Stmt) (i : ISs) : Prop := ∀ X p W, Oks Γ X p → L2N.Takes X W → PSs X s (TSsx W X.mg Γ p i)
section
variable {Γ : Gam} {e a b c : Expr} {es : List Expr} {ia ib ic i : IE} {ies : IEs} {pos pos' p0 p1 p2 : Pos} {x : Str} {W : WX} {mg : Str → Option Value} {s : Stmt} {ss : List Stmt} {is : IS} {iss : ISs}
theorem ErrK2.mono {p : Pa} {B B' F : Hp} {er : Er} {env : List Sl} {st : Pl} (h : ErrK2 W mg Γ p B F er env st) (x : Ex B B') : ErrK2 W mg Γ p B' F er env st := fun cls d B2 M2 σ2 H2 x2 r z => h cls d B2 M2 σ2 H2 (x.trans x2) r z
/-- what cannot raise -/
theorem ssx_calm (h : SS Γ s is) : SSX Γ s (.calm is) := fun X p W o tk => PS_weak (h X p o) fun D σ H q => by
  obtain ⟨st, B, M, F, env, r, q⟩ := q
  rcases q with ⟨out, he, k⟩ | ⟨er, env1, st1, he, _⟩
  · unfold evS at he
    exact ⟨st, B, M, F, env, out, r, he, k⟩
  · unfold xvS at he
    cases he
theorem sssx_nil : SSsX Γ [] .nil := fun X p W o tk => PSs_weak pss_nil fun D σ H q => by
  obtain ⟨st, B, M, F, env, r, q⟩ := q
  rcases q with ⟨out, he, k⟩ | ⟨er, env1, st1, he, _⟩
  · unfold evSs at he
    cases he
    exact k B M σ H (Ex.refl B) r
  · unfold xvSs at he
    cases he
theorem sssx_cons (h : SSX Γ s is) (hr : SSsX Γ ss iss) : SSsX Γ (s :: ss) (.cons is iss) := fun X p W o tk => PSs_weak (pss_cons (h X p W o tk) (hr X p W o tk)) fun D σ H q => by
  obtain ⟨st, B, M, F, env, r, q⟩ := q
  rcases q with ⟨out, he, k⟩ | ⟨er, env1, st1, he, k⟩
  · unfold evSs at he
    split at he
    · rename_i env2 st2 e1
      exact ⟨st, B, M, F, env, r, .inl ⟨_, e1, fun B' M' σ' H' x r' => ⟨st2, B', M', F, env2, r', .inl ⟨out, he, k.mono x⟩⟩⟩⟩
    · rename_i o1 hn e1
      cases he
      refine ⟨st, B, M, F, env, r, .inl ⟨_, e1, ?_⟩⟩
      cases out with
      | nx env1 st1 => exact (hn env1 st1 rfl).elim
      | rt d st1 => exact k
      | bk env1 st1 => exact k
      | ct env1 st1 => exact k
    · cases he
  · unfold xvSs at he
    split at he
    · rename_i z e1
      cases he
      exact ⟨st, B, M, F, env, r, .inr ⟨_, _, _, e1, k⟩⟩
    · split at he
      · rename_i env2 st2 e2
        exact ⟨st, B, M, F, env, r, .inl ⟨_, e2, fun B' M' σ' H' x r' => ⟨st2, B', M', F, env2, r', .inr ⟨er, env1, st1, he, k.mono x⟩⟩⟩⟩
      · cases he
theorem ssx_set (j : Nat) (h : SX Γ e i) (hN : Γ.N[j]? = some x := by rfl) (hl : Loc Γ.sc x := by first | exact Or.inl rfl | exact Or.inr rfl) (hs : ∀ env, swapsWith e (some (.Name x p0)) pos.line env = pure false := by intro _; rfl) : SSX Γ (.Assign [.Name x p0] e pos) (.set j i) := fun X p W o tk =>
  PS_weak (ps_set (i := j) (by rw [o.N]; exact o.nd) (by rw [o.N]; exact hN) (by rw [o.sc]; exact hl) (h X p W o.toOkx tk) (hs _) (.inl (o.fnx x))) fun D σ H q => by
    obtain ⟨st, B, M, F, env, r, q⟩ := q
    rcases q with ⟨out, he, k⟩ | ⟨er, env1, st1, he, k⟩
    · unfold evS at he
      split at he
      · rename_i d st1 e1
        cases he
        exact ⟨st, B, M, F, env, r, .inl ⟨d, st1, e1, fun v B' H' x r' pv => k B' M _ H' x (r'.set pv j)⟩⟩
      · cases he
    · obtain ⟨⟨er', st2⟩, e1, e2⟩ := Option.map_eq_some_iff.mp (show (xv Γ.cl i env st).map (fun r => (r.1, env, r.2)) = some (er, env1, st1) from he)
      cases e2
      exact ⟨st, B, M, F, env, r, .inr ⟨er', st2, e1, fun cls d B' H' x r' z => k cls d B' M σ H' x r' z⟩⟩
theorem ssx_ret (h : SX Γ e i) (hfr : Γ.fr = false := by rfl) : SSX Γ (.Return (some e) pos) (.ret i) := fun X p W o tk => PS_weak (ps_ret (h X p W o.toOkx tk)) fun D σ H q => by
  obtain ⟨st, B, M, F, env, r, q⟩ := q
  rcases q with ⟨out, he, k⟩ | ⟨er, env1, st1, he, k⟩
  · unfold evS at he
    split at he
    · rename_i d st1 e1
      cases he
      exact ⟨st, B, M, F, env, r, .inl ⟨d, st1, e1, fun v B' H' x r' pv => k v B' H' x r'.bs (by rw [RtV.f (o.fr.trans hfr)]; exact pv)⟩⟩
    · cases he
  · obtain ⟨⟨er', st2⟩, e1, e2⟩ := Option.map_eq_some_iff.mp (show (xv Γ.cl i env st).map (fun r => (r.1, env, r.2)) = some (er, env1, st1) from he)
    cases e2
    exact ⟨st, B, M, F, env, r, .inr ⟨er', st2, e1, fun cls d B' H' x r' z => k cls d B' M σ H' x r' z⟩⟩
theorem ssx_drop (h : SX Γ e i) (hs : ∀ env, swapsWith e none pos.line env = pure false := by intro _; rfl) : SSX Γ (.Expr e pos) (.drop i) := fun X p W o tk => PS_weak (ps_expr (h X p W o.toOkx tk) (hs _)) fun D σ H q => by
  obtain ⟨st, B, M, F, env, r, q⟩ := q
  rcases q with ⟨out, he, k⟩ | ⟨er, env1, st1, he, k⟩
  · unfold evS at he
    split at he
    · rename_i d st1 e1
      cases he
      exact ⟨st, B, M, F, env, r, .inl ⟨d, st1, e1, fun v B' H' x r' pv => k B' M σ H' x r'⟩⟩
    · cases he
  · obtain ⟨⟨er', st2⟩, e1, e2⟩ := Option.map_eq_some_iff.mp (show (xv Γ.cl i env st).map (fun r => (r.1, env, r.2)) = some (er, env1, st1) from he)
    cases e2
    exact ⟨st, B, M, F, env, r, .inr ⟨er', st2, e1, fun cls d B' H' x r' z => k cls d B' M σ H' x r' z⟩⟩
theorem ssx_iff {sa sb : List Stmt} {xa xb : ISs} (hc : ST Γ c ic) (ha : SSsX Γ sa xa) (hb : SSsX Γ sb xb) : SSX Γ (.If c sa sb pos) (.iff ic xa xb) := fun X p W o tk => PS_weak (ps_if (hc X p o.toOkx) (ha X p W o tk) (hb X p W o tk)) fun D σ H q => by
  obtain ⟨st, B, M, F, env, r, q⟩ := q
  rcases q with ⟨out, he, k⟩ | ⟨er, env1, st1, he, k⟩
  · unfold evS at he
    split at he
    · rename_i st1 e1
      exact ⟨st, B, M, F, env, true, st1, r, e1, fun B' H' x r' => iteT ⟨st1, B', M, F, env, r', .inl ⟨out, he, k.mono x⟩⟩⟩
    · rename_i st1 e1
      exact ⟨st, B, M, F, env, false, st1, r, e1, fun B' H' x r' => iteF ⟨st1, B', M, F, env, r', .inl ⟨out, he, k.mono x⟩⟩⟩
    · cases he
  · unfold xvS at he
    split at he
    · rename_i st2 e1
      exact ⟨st, B, M, F, env, true, st2, r, e1, fun B' H' x r' => iteT ⟨st2, B', M, F, env, r', .inr ⟨er, env1, st1, he, k.mono x⟩⟩⟩
    · rename_i st2 e1
      exact ⟨st, B, M, F, env, false, st2, r, e1, fun B' H' x r' => iteF ⟨st2, B', M, F, env, r', .inr ⟨er, env1, st1, he, k.mono x⟩⟩⟩
    · cases he
/-- raise E(e) -/
theorem errOk_v {K : PySem.W.Frag} {B : Hp} {v : V} {d : D} (p : Rp K B v d) (h : errOk d = true) : ErrV v := by
  cases p with
  | str y => exact .inl ⟨y, rfl, of_decide_eq_true h⟩
  | int n =>
    have h2 : (decide (n.natAbs.log2 < 1920) && decide ((toString n : String).toList.length ≤ 1000)) = true := h
    simp only [Bool.and_eq_true, decide_eq_true_eq] at h2
    exact .inr ⟨n, rfl, h2.1, h2.2⟩
  | _ => cases h
theorem ssx_rse {fld : Str} (h : SE Γ e i) (hf : (x, fld) ∈ Γ.es) (hh : Γ.hot = false := by rfl) (hc : GlS Γ.sc x := by rfl) (hdb : (x == ("__debug__" : Str)) = false := by decide) (hs : ∀ env, starEach [e] env = (false, eval e env) :: starEach [] env := by intro _; rfl)
    : SSX Γ (.Raise (some (.Call (.Name x p0) [e] [] pos)) none pos') (.rse x i) := fun X p W o tk => by
  obtain ⟨C, ec⟩ := o.er hh _ hf
  refine PS_weak (L2N.ps_raise (o.calm hh) tk (pmk_err1 ec (o.gl hc) ((sa_cons h sa_nil hs) X p o.toOkx) hdb (hs _) rfl)) fun D σ H q => ?_
  obtain ⟨st, B, M, F, env, r, q⟩ := q
  rcases q with ⟨out, he, k⟩ | ⟨er, env1, st1, he, k⟩
  · unfold evS at he
    cases he
  · unfold xvS at he
    split at he
    · rename_i v st2 e1
      split at he
      · rename_i hok
        cases he
        refine ⟨st, B, M, F, env, [v], _, r, by unfold ea; rw [e1]; rfl, fun vs B' H' x1 r' pv => ?_⟩
        cases pv with
        | cons p1 p2 =>
          cases p2
          refine mk_in (C := C) (fld := fld) (H1 := H') (Q := fun cls d H' => W cls d σ H') (errOk_v p1 hok) fun d hd => ?_
          obtain ⟨f1, f2, f3, f4⟩ := r'.freshM hd
          refine k _ _ B' M σ _ x1 (r'.more hd) ⟨C, fld, _, hf, ec.mg, rfl, upd_same, p1, f1, ?_, f4.1⟩
          rw [uni_r f2]
          exact f3
      · cases he
    · cases he
end
end Ip

set_option Elab.async false
set_option linter.all false
set_option maxRecDepth 100000
set_option maxHeartbeats 4000000
namespace Ip
open PySem L2
/-! Defs that may raise. -/
/-- what a def's body raises, as what its name with the mark comes to -/
def runX (n : Nat) (cl : Cl) (f : IF) (as : List (Option D)) (st : Pl) : Option (D × Pl) := if as.length = n then
  (match xvSs cl f.body (as.map slOf ++ List.replicate (f.n - as.length) .no) st with
  | some (er, _, st1) => some (erD er, st1)
  | none => none) else none
theorem erOf_erD (er : Er) : erOf (erD er) = some er := rfl
theorem fnx_ok {P : Program} {w : World} {K : PySem.W.Frag} {mg : Str → Option Value} {base : Heap} {x qual : Str} {params : Arguments} {body : List Stmt} {scope : Scope} {f : Addr} {fd : FuncData} {N ps : List Str} {k : Nat} {Γ : Gam} {I : IF} {cl : Cl} {g : Str}
    {dvs : List V} {kws : List (Str × V)} (F : FunD K x qual params body scope dvs kws f fd) (S : FnScope N ps scope) (hh : Γ.hot = false) (hK : Γ.K = K) (hN : Γ.N = N) (hsc : Γ.sc = scope) (hb : SSsX Γ body I.body) (hn : I.n = N.length)
    (hcl : ∀ as st, cl g as st = runI ps.length Γ.cl I as st) (hcx : ∀ as st, cl (bang g) as st = runX ps.length Γ.cl I as st)
    (av : Av P w K mg base k Γ) (hio : Γ.io = none := by rfl) (hfr : Γ.fr = false := by rfl) :
    FnOk P w K mg base (L2N.CX P w) (k + 1) f fd ps (spG mg Γ.es K cl g) := by
  refine F.ok S (fun vs H Q E h => ?_) (fun cdv A outer s H vs Q E hr h => ?_)
  · obtain ⟨p, st, B, F, as, _, _, ha, q⟩ := h
    rw [ha.length]
    rcases q with ⟨d, st', e, _⟩ | ⟨dd, er, st', e, _⟩
    · rw [hcl] at e
      unfold runI at e
      split at e
      · assumption
      · cases e
    · rw [hcx] at e
      unfold runX at e
      split at e
      · assumption
      · cases e
  · obtain ⟨p, st, B, F0, as, hl, w1, ha, q⟩ := h
    refine ⟨_, hb _ p (fun cls d _ H' => E cls d H') (av.oks hh hK hN S.nd hsc hl.lk (by rw [hl.io, hio]; rfl) (hl.fr.trans hfr.symm) hl.tb hr) (L2N.takes_of rfl rfl rfl rfl), ?_⟩
    have rl := rel_start (N := N) w1 ha
    have hmg : (cxOf (L2N.CX P w) P w K mg base N qual scope f cdv A outer s H E).mg = mg := rfl
    rw [hmg]
    subst hK
    refine ⟨st, B, fun _ => none, F0, as.map slOf ++ List.replicate (N.length - as.length) .no, rl, ?_⟩
    rcases q with ⟨d, st', e, kk⟩ | ⟨dd, er, st', e, e2, kk⟩
    · rw [hcl] at e
      unfold runI at e
      split at e
      · unfold runF at e
        rw [hn] at e
        cases e1 : evSs Γ.cl I.body (as.map slOf ++ List.replicate (N.length - as.length) .no) st with
        | none =>
          rw [e1] at e
          cases e
        | some o =>
          rw [e1] at e
          refine .inl ⟨o, rfl, ?_⟩
          cases o with
          | rt d2 st2 =>
            cases e
            exact fun v B' H' x r pv => kk v B' H' x r (by rw [RtV.f hl.fr] at pv; exact pv)
          | nx env2 st2 =>
            cases e
            exact fun B' M' σ' H' x r => kk .non B' H' x r.bs .non
          | bk env2 st2 => cases e
          | ct env2 st2 => cases e
      · cases e
    · rw [hcx] at e
      unfold runX at e
      split at e
      · rw [hn] at e
        cases e1 : xvSs Γ.cl I.body (as.map slOf ++ List.replicate (N.length - as.length) .no) st with
        | none =>
          rw [e1] at e
          cases e
        | some z =>
          obtain ⟨er1, env1, st1⟩ := z
          rw [e1] at e
          cases e
          rw [erOf_erD] at e2
          cases e2
          refine .inr ⟨_, env1, _, rfl, fun cls d B' M' σ' H' x r z => kk cls d B' H' x r.bs ?_⟩
          obtain ⟨C, fld, u, z1, z2, z3, z4, z5, z6, z7, z8⟩ := z
          refine ⟨C, fld, u, z1, z2, z3, z4, z5, z6, ?_, z8⟩
          cases hm : M' d with
          | none => rw [uni_r hm] at z7; exact z7
          | some o => rw [uni_l hm] at z7; cases z7
      · cases e
end Ip

set_option Elab.async false
set_option linter.all false
set_option maxRecDepth 100000
set_option maxHeartbeats 4000000
namespace Ip
open PySem L2
/-! try, the caught error's field and class. -/
section
variable {K : PySem.W.Frag} {p : Pa} {st : Pl} {B M F : Hp} {env : List Sl} {σ : L2.St} {H : Hp}
/-- the same pool, another caught error -/
def Pa.with_ (p : Pa) (l : Addr → Addr → Str → Str → Prop) : Pa := ⟨p.a, p.q, l, p.io, p.fr, p.ca, p.tb⟩
theorem Bs.with_ {l : Addr → Addr → Str → Str → Prop} (w : Bs p st B F H) : Bs (p.with_ l) st B F H := ⟨w.b, w.f, w.d, w.pf, w.pb, w.pl, ⟨w.ce.at_, w.ce.b, w.ce.inj, w.ce.tn, w.ce.tt⟩⟩
theorem Bs.without {l : Addr → Addr → Str → Str → Prop} (w : Bs (p.with_ l) st B F H) : Bs p st B F H := ⟨w.b, w.f, w.d, w.pf, w.pb, w.pl, ⟨w.ce.at_, w.ce.b, w.ce.inj, w.ce.tn, w.ce.tt⟩⟩
theorem SlR.cln {l : Addr → Addr → Str → Str → Prop} : ∀ {s : Sl} {o : Option V}, SlR K (p.with_ l) B M s o → SlR K p B M (cln s) o
  | .no, _, _ => True.intro
  | .im _, some _, h => h
  | .im _, none, h => h
  | .ow _, some (.ref _), h => h
  | .ow _, some .non, h | .ow _, some (.bl _), h | .ow _, some (.int _), h | .ow _, some (.str _), h | .ow _, some (.byt _), h | .ow _, some (.flt _), h | .ow _, some (.ty _), h | .ow _, none, h => h
  | .pl, some (.ref _), h => h
  | .pl, some .non, h | .pl, some (.bl _), h | .pl, some (.int _), h | .pl, some (.str _), h | .pl, some (.byt _), h | .pl, some (.flt _), h | .pl, some (.ty _), h | .pl, none, h => h
  | .ce _, some (.ref _), h => h
  | .ce _, some .non, h | .ce _, some (.bl _), h | .ce _, some (.int _), h | .ce _, some (.str _), h | .ce _, some (.byt _), h | .ce _, some (.flt _), h | .ce _, some (.ty _), h | .ce _, none, h => h
  | .er _ _, _, _ => True.intro
theorem cln_ow {s : Sl} {ds : List D} (h : cln s = .ow ds) : s = .ow ds := by
  cases s <;> first | exact h | cases h
/-- the suite's end: its name is gone -/
theorem EnR.cln {l : Addr → Addr → Str → Str → Prop} (h : EnR K (p.with_ l) B M env σ) (j : Nat) : EnR K p B M (clnE j env) (σ.set j none) where
  len := by
    unfold clnE
    rw [List.length_set, List.length_map, List.length_set]
    exact h.len
  at_ := fun i s hi => by
    unfold clnE at hi
    by_cases e : j = i
    · subst e
      have hl : j < (env.map Ip.cln).length := by
        have := (List.getElem?_eq_some_iff.mp hi).1
        rw [List.length_set] at this
        exact this
      rw [List.getElem?_set_self hl] at hi
      cases hi
      exact ⟨none, List.getElem?_set_self (by rw [← h.len]; rw [List.length_map] at hl; exact hl), True.intro⟩
    · rw [List.getElem?_set_ne e, List.getElem?_map] at hi
      obtain ⟨s0, h1, rfl⟩ := Option.map_eq_some_iff.mp hi
      obtain ⟨o, h2, h3⟩ := h.at_ i s0 h1
      exact ⟨o, by rw [List.getElem?_set_ne e]; exact h2, h3.cln⟩
  ap := fun i k ds es a hi hk si sk => by
    have old : ∀ {i : Nat} {ds : List D}, (clnE j env)[i]? = some (.ow ds) → j ≠ i ∧ env[i]? = some (.ow ds) := fun {i ds} hi => by
      unfold clnE at hi
      by_cases e : j = i
      · subst e
        have hl : j < (env.map Ip.cln).length := by
          have := (List.getElem?_eq_some_iff.mp hi).1
          rw [List.length_set] at this
          exact this
        rw [List.getElem?_set_self hl] at hi
        cases hi
      · rw [List.getElem?_set_ne e, List.getElem?_map] at hi
        obtain ⟨s0, h1, h2⟩ := Option.map_eq_some_iff.mp hi
        exact ⟨e, by rw [h1, cln_ow h2]⟩
    obtain ⟨n1, o1⟩ := old hi
    obtain ⟨n2, o2⟩ := old hk
    rw [List.getElem?_set_ne n1] at si
    rw [List.getElem?_set_ne n2] at sk
    exact h.ap i k ds es a o1 o2 si sk
  io := fun i a ds hp hi => by
    unfold clnE at hi
    by_cases e : j = i
    · subst e
      have hl : j < (env.map Ip.cln).length := by
        have := (List.getElem?_eq_some_iff.mp hi).1
        rw [List.length_set] at this
        exact this
      rw [List.getElem?_set_self hl] at hi
      cases hi
    · rw [List.getElem?_set_ne e, List.getElem?_map] at hi
      obtain ⟨s0, h1, h2⟩ := Option.map_eq_some_iff.mp hi
      rw [List.getElem?_set_ne e]
      exact h.io i a ds hp (by rw [h1, cln_ow h2])
theorem Rel.cln {l : Addr → Addr → Str → Str → Prop} (r : Rel K (p.with_ l) st B M F env σ H) (j : Nat) : Rel K p st B M F (clnE j env) (σ.set j none) H := ⟨r.bs.without, r.m, r.md, r.mc, r.mt, r.en.cln j⟩
/-- the suite's start: no error was spoken of, now one is -/
theorem SlR.with_ {l : Addr → Addr → Str → Str → Prop} (hn : p.lk = noLk) : ∀ {s : Sl} {o : Option V}, SlR K p B M s o → SlR K (p.with_ l) B M s o
  | .no, _, _ => True.intro
  | .im _, some _, h => h
  | .im _, none, h => h
  | .ow _, some (.ref _), h => h
  | .ow _, some .non, h | .ow _, some (.bl _), h | .ow _, some (.int _), h | .ow _, some (.str _), h | .ow _, some (.byt _), h | .ow _, some (.flt _), h | .ow _, some (.ty _), h | .ow _, none, h => h
  | .pl, some (.ref _), h => h
  | .pl, some .non, h | .pl, some (.bl _), h | .pl, some (.int _), h | .pl, some (.str _), h | .pl, some (.byt _), h | .pl, some (.flt _), h | .pl, some (.ty _), h | .pl, none, h => h
  | .ce _, some (.ref _), h => h
  | .ce _, some .non, h | .ce _, some (.bl _), h | .ce _, some (.int _), h | .ce _, some (.str _), h | .ce _, some (.byt _), h | .ce _, some (.flt _), h | .ce _, some (.ty _), h | .ce _, none, h => h
  | .er _ _, _, h => by
    obtain ⟨a, dd, f, u, _, h2, _⟩ := h
    rw [hn] at h2
    exact h2.elim
theorem Rel.caught {l : Addr → Addr → Str → Str → Prop} (r : Rel K p st B M F env σ H) (hn : p.lk = noLk) {j : Nat} {a dd : Addr} {c f : Str} {u : V} {v : D} (hl : l a dd c f) (hd : B dd = some (.xd [(f, u)])) (pv : Rp K B u v) :
    Rel K (p.with_ l) st B M F (env.set j (.er c v)) (σ.set j (some (.ref a))) H where
  bs := r.bs.with_
  m := r.m
  md := r.md
  mc := r.mc
  mt := r.mt
  en := {
    len := by rw [List.length_set, List.length_set]; exact r.en.len
    at_ := fun i s hi => by
      by_cases e : j = i
      · subst e
        have hlt : j < env.length := by
          have := (List.getElem?_eq_some_iff.mp hi).1
          rw [List.length_set] at this
          exact this
        rw [List.getElem?_set_self hlt] at hi
        cases hi
        exact ⟨some (.ref a), List.getElem?_set_self (by rw [← r.en.len]; exact hlt), a, dd, f, u, rfl, hl, hd, pv⟩
      · rw [List.getElem?_set_ne e] at hi
        obtain ⟨o, h1, h2⟩ := r.en.at_ i s hi
        exact ⟨o, by rw [List.getElem?_set_ne e]; exact h1, h2.with_ hn⟩
    ap := fun i k ds es b hi hk si sk => by
      have hne : ∀ {i : Nat} {ds : List D}, (env.set j (.er c v))[i]? = some (.ow ds) → j ≠ i := fun {i ds} hi e => by
        subst e
        have hlt : j < env.length := by
          have := (List.getElem?_eq_some_iff.mp hi).1
          rw [List.length_set] at this
          exact this
        rw [List.getElem?_set_self hlt] at hi
        cases hi
      have n1 := hne hi
      have n2 := hne hk
      rw [List.getElem?_set_ne n1] at hi si
      rw [List.getElem?_set_ne n2] at hk sk
      exact r.en.ap i k ds es b hi hk si sk
    io := fun i b ds hp hi => by
      by_cases e : j = i
      · subst e
        have hlt : j < env.length := by
          have := (List.getElem?_eq_some_iff.mp hi).1
          rw [List.length_set] at this
          exact this
        rw [List.getElem?_set_self hlt] at hi
        cases hi
      · rw [List.getElem?_set_ne e] at hi ⊢
        exact r.en.io i b ds hp hi }
end
section
variable {Γ : Gam} {X : Cx} {p : Pa}
/-- within a try's body -/
theorem Oks.tr (o : Oks Γ X p) (hh : Γ.hot = false) {pn : List (Addr × Obj)} {xe : Value → Shared → Prop} (hp : PassesOwn (model X.prog X.w) X.A X.env xe) : Oks Γ (X.tr pn xe) p where
  K := o.K
  N := o.N
  nd := o.nd
  sc := o.sc
  calm := o.calm
  hotc := fun z => by
    rw [hh] at z
    cases z
  units := o.units
  fn := o.fn
  fnh := o.fnh
  bl := o.bl
  xn := o.xn
  er := fun z q hq => by
    obtain ⟨C, h⟩ := o.er z q hq
    exact ⟨C, h.mg, h.oex, h.def_⟩
  df := o.df
  gn := o.gn
  lk := o.lk
  lkh := fun a dd c f h => by
    rw [o.lk hh] at h
    exact h.elim
  ef := ⟨o.ef.cl, o.ef.ki, o.ef.tr, o.ef.gc⟩
  kd := o.kd
  lx := o.lx
  lm := o.lm
  tb := o.tb
  own := hp
  stk := o.stk
  frm := o.frm
  fnx := o.fnx
  io := o.io
  fr := o.fr
  fi := o.fi
  ff := o.ff
/-- what is known within a suite -/
def Gam.su (Γ : Gam) : Gam := { Γ with hot := true }
/-- the error that a suite holds -/
def suLk (Γ : Gam) (mg : Str → Option Value) (a : Addr) (cls : Value) (d : Option Addr) : Addr → Addr → Str → Str → Prop := fun a' dd c f => a' = a ∧ d = some dd ∧ (c, f) ∈ Γ.es ∧ ∃ C, mg c = some (.ref C) ∧ cls = .ref C
theorem Oks.su (o : Oks Γ X p) (hh : Γ.hot = false) {a : Addr} {oe : Obj} {cls : Value} {d : Option Addr} {pn : List (Addr × Obj)} (hz : L2N.Zn cls d oe) (hf : ∃ vs, oe.data = .fields vs) :
    Oks Γ.su (X.suite a ((a, oe) :: pn)) (p.with_ (suLk Γ X.mg a cls d)) where
  K := o.K
  N := o.N
  nd := o.nd
  sc := o.sc
  calm := fun z => by cases z
  hotc := fun _ => by
    obtain ⟨vs, hv⟩ := hf
    exact ⟨(a, oe), ⟨rfl, vs, hv, hz.2.2 vs hv⟩, List.mem_cons_self⟩
  units := o.units
  fn := fun z => by cases z
  fnh := fun f hf => by
    obtain ⟨fa, fd, ps, k, h1, h2, h3, h4, h5⟩ := o.fnh f hf
    exact ⟨fa, fd, ps, k, h1, h2, h3, h4, ⟨h5.dp, h5.un⟩⟩
  bl := o.bl
  xn := fun z => by cases z
  er := fun z => by cases z
  df := fun z => by cases z
  gn := fun z => by cases z
  lk := fun z => by cases z
  lkh := fun a' dd c f h => by
    obtain ⟨rfl, rfl, h3, C, h4, rfl⟩ := h
    exact ⟨h3, ⟨X, oe, pn, C, rfl, hz.zc, hf, h4⟩⟩
  ef := ⟨o.ef.cl, o.ef.ki, o.ef.tr, o.ef.gc⟩
  kd := o.kd
  lx := fun z => by cases z
  lm := o.lm
  tb := o.tb
  own := PassesOwn.never
  stk := o.stk
  frm := o.frm
  fnx := o.fnx
  io := o.io
  fr := o.fr
  fi := fun z => by cases z
  ff := fun z => by cases z
end
section
variable {Γ : Gam} {e a b c : Expr} {es : List Expr} {pos p0 p1 p2 np pos' : Pos} {x n f : Str} {body suite : List Stmt} {b₀ : Stmt} {ib iu : ISs}
theorem takes0 {X : Cx} : L2N.Takes X (fun _ _ _ _ => False) := fun u s' ⟨_, _, _, _, _, _, _, _, _, _, _, _, _, _, _, _, z⟩ => z.elim
theorem out_un {K : PySem.W.Frag} {p : Pa} {l : Addr → Addr → Str → Str → Prop} {B F : Hp} {D : Ends} {j : Nat} : ∀ {o : Out}, OutK K p B F D (o.un j) → OutK K (p.with_ l) B F { nx := fun σ' H' => D.nx (σ'.set j none) H', rt := D.rt, bk := fun σ' H' => D.bk (σ'.set j none) H', ct := fun σ' H' => D.ct (σ'.set j none) H' } o
  | .nx _ _, h => fun B' M σ H x r => h B' M (σ.set j none) H x (r.cln j)
  | .rt _ _, h => fun v B' H x w pv => h v B' H x w.without pv
  | .bk _ _, h => fun B' M σ H x r => h B' M (σ.set j none) H x (r.cln j)
  | .ct _ _, h => fun B' M σ H x r => h B' M (σ.set j none) H x (r.cln j)
/-- try: body, except x as n: suite: an error of a class in cs is caught -/
theorem ss_tri (j : Nat) (cs : List Str) (hb : SSsX Γ body ib) (hu : SSs Γ.su (b₀ :: suite) iu) (hh : Γ.hot = false := by rfl) (hN : Γ.N[j]? = some n := by rfl) (hl : Γ.sc.names.lookup n = some .local := by rfl) (hg : GlS Γ.sc x := by rfl)
    (hx : cs.all (fun c => Γ.ts.contains (c, x, true)) = true := by rfl) (hc0 : cs ≠ [] := by decide) (hdb : (x == ("__debug__" : Str)) = false := by decide) (hsub : cs.all (fun c => Γ.es.any fun q => q.1 == c) = true := by rfl) :
    SS Γ (.Try body [.ExceptHandler (some (.Name x np)) (some n) (b₀ :: suite) pos'] [] [] pos) (.tri ib cs j iu) := fun X p o => by
  obtain ⟨c0, hm0⟩ : ∃ c0, c0 ∈ cs := by
    cases cs with
    | nil => exact absurd rfl hc0
    | cons c0 _ => exact ⟨c0, List.mem_cons_self⟩
  have mem : ∀ c ∈ cs, (c, x, true) ∈ Γ.ts := fun c hc => List.contains_iff_mem.mp (List.all_eq_true.mp hx c hc)
  obtain ⟨f0, hf0⟩ : ∃ f0, (c0, f0) ∈ Γ.es := by
    obtain ⟨q, hq, e⟩ := List.any_eq_true.mp (List.all_eq_true.mp hsub c0 hm0)
    obtain ⟨q1, q2⟩ := q
    have e : q1 = c0 := beq_iff_eq.mp e
    subst e
    exact ⟨q2, hq⟩
  obtain ⟨C0, hC0⟩ := o.er hh _ hf0
  obtain ⟨Cx0, hD, _⟩ := o.ef.tr _ (mem c0 hm0) C0 hC0.mg
  refine PS_weak (L2N.ps_try_as (i := j) (c := .ref Cx0) (Wout := fun _ _ _ _ => False) (tb := fun W => TSsx W X.mg Γ p ib) (ts := fun a cls d => TSs Γ.K Γ.cl (p.with_ (suLk Γ X.mg a cls d)) iu) o.stk o.frm (by rw [o.N]; exact o.nd) (by rw [o.N]; exact hN)
    (show X.env.scope.names.lookup n = _ by rw [o.sc]; exact hl) ⟨o.gl hg, hdb, .inl hD⟩ takes0 (fun W pn xe tk hp => hb (X.tr pn xe) p W (o.tr hh hp) tk) (fun a oe cls d pn hz hf => hu _ _ (o.su hh hz hf))) fun D σ H q => ?_
  obtain ⟨st, B, M, F, env, out, r, he, k⟩ := q
  unfold evS at he
  refine ⟨st, B, M, F, env, r, ?_⟩
  split at he
  · rename_i o1 e1
    cases he
    exact .inl ⟨_, e1, k⟩
  · split at he
    · rename_i c v env1 st1 e1
      split at he
      · rename_i hc
        split at he
        · rename_i o2 e2
          cases he
          refine .inr ⟨(c, v), env1, st1, e1, fun cls d B' M' σ' H' x1 r1 z => ?_⟩
          obtain ⟨C, fld, u, z1, z2, z3, z4, z5, z6, z7, z8⟩ := z
          subst z3
          obtain ⟨D', hD', hex⟩ := o.ef.tr _ (mem c hc) C z2
          rw [hD] at hD'
          cases hD'
          have zM : M' d = none := by
            cases hm : M' d with
            | none => rfl
            | some w => rw [uni_l hm] at z7; cases z7
          have zF : F d = none := by rw [uni_r zM] at z7; exact z7
          refine ⟨true, by rw [o.K] at hex ⊢; exact hex, fun _ a ha => ?_, fun z => by cases z⟩
          have r2 := r1.know z4 z6 zM zF ⟨z8, (fun k hk => by
            obtain ⟨xs, ds, _, h2, _⟩ := r1.bs.ce.at_ k d hk
            rw [z4] at h2
            cases h2), fun q hq e => by
            obtain ⟨ps, g1, _⟩ := r1.bs.ce.tt q hq
            rw [e, z4] at g1
            cases g1⟩
          have r3 := r2.caught (o.lk hh) (j := j) (a := a) (l := suLk Γ X.mg a (.ref C) (some d)) ⟨rfl, rfl, z1, C, z2, rfl⟩ upd_same (z5.mono (Ex.new z6))
          exact ⟨st1, _, M', F, _, o2, r3, e2, out_un (k.mono (x1.trans (Ex.new z6)))⟩
        · cases he
      · cases he
    · cases he
/-- n.f, n the caught error -/
theorem exf_se (j : Nat) (cs : List Str) (hN : Γ.N[j]? = some n := by rfl) (hl : Γ.sc.names.lookup n = some .local := by rfl) (hd : (n == ("__debug__" : Str)) = false := by decide) (hcd : (n == ("__classdict__" : Str)) = false := by decide)
    (hc : Γ.es.all (fun q => !cs.contains q.1 || q.2 == f) = true := by rfl) (hb : ∀ env, attributeBase (.Name n p0) f env (eval (.Name n p0) env) = eval (.Name n p0) env := by intro _; rfl) : SE Γ (.Attribute (.Name n p0) f pos) (.exf j cs) := fun X p o => ⟨fun pins s σ H Q I q => by
  obtain ⟨st, B, M, F, env, d, st', r, he, k⟩ := id q
  unfold ev at he
  split at he
  · rename_i c v e1
    split at he
    · rename_i hcs
      cases he
      obtain ⟨ov, h1, a, dd, fl, u, h2, h3, h4, h5⟩ := r.en.at_ j _ e1
      obtain ⟨hes, hca⟩ := o.lkh a dd c fl h3
      obtain ⟨X0, oe, pn, C, e2, hz, hf, hmg⟩ := hca.ex
      obtain ⟨f1, f2, f3⟩ := o.ef.cl _ hes C hmg
      have ef : fl = f := by
        have z := List.all_eq_true.mp hc _ hes
        dsimp only at z
        rw [List.contains_iff_mem.mpr hcs] at z
        exact beq_iff_eq.mp (by simpa using z)
      subst ef
      have hv : Vis X.env.scope n := by rw [o.sc]; exact Or.inl hl
      have hNX : X.N[j]? = some n := by rw [o.N]; exact hN
      have hbX := hb X0.env
      subst e2
      have P := pe_xf (X := X0) (a := a) (oe := oe) (pn := pn) (cls := .ref C) (d := some dd) (n := fl) (pos := pos) f1 f3 hz hf (pe_var (X := X0.suite a ((a, oe) :: pn)) (i := j) hNX hv hd hcd) hbX
      refine P.run pins s σ H Q I ⟨.ref a, ?_, rfl, rfl, dd, [(fl, u)], u, rfl, r.bs.b _ _ h4, by simp [List.lookup], k u B H (Ex.refl B) r h5⟩
      rw [← h2]
      exact h1
    · cases he
  · cases he⟩
/-- isinstance(n, x), n the caught error -/
theorem exi_se (j : Nat) (cs yes : List Str) (hb : Γ.bs.contains "isinstance" = true := by rfl) (hg : GlS Γ.sc "isinstance" := by rfl) (hN : Γ.N[j]? = some n := by rfl) (hl : Γ.sc.names.lookup n = some .local := by rfl) (hd : (n == ("__debug__" : Str)) = false := by decide) (hcd : (n == ("__classdict__" : Str)) = false := by decide)
    (hx : GlS Γ.sc x := by rfl) (hxd : (x == ("__debug__" : Str)) = false := by decide) (hks : Γ.es.all (fun q => !cs.contains q.1 || Γ.ks.contains (q.1, x, yes.contains q.1)) = true := by rfl)
    (hs : ∀ env, starEach [.Name n p1, .Name x p2] env = (false, eval (.Name n p1) env) :: starEach [.Name x p2] env := by intro _; rfl) : SE Γ (.Call (.Name "isinstance" p0) [.Name n p1, .Name x p2] [] pos) (.exi j cs yes) := fun X p o => ⟨fun pins s σ H Q I q => by
  obtain ⟨st, B, M, F, env, d, st', r, he, k⟩ := id q
  unfold ev at he
  split at he
  · rename_i c v e1
    split at he
    · rename_i hcs
      cases he
      obtain ⟨ov, h1, a, dd, fl, u, h2, h3, h4, h5⟩ := r.en.at_ j _ e1
      obtain ⟨hes, hca⟩ := o.lkh a dd c fl h3
      obtain ⟨X0, oe, pn, C, e2, hz, hf, hmg⟩ := hca.ex
      obtain ⟨f1, f2, f3⟩ := o.ef.cl _ hes C hmg
      have hm : (c, x, yes.contains c) ∈ Γ.ks := by
        have z := List.all_eq_true.mp hks _ hes
        dsimp only at z
        rw [List.contains_iff_mem.mpr hcs] at z
        exact List.contains_iff_mem.mp (by simpa using z)
      have hv : Vis X.env.scope n := by rw [o.sc]; exact Or.inl hl
      have hNX : X.N[j]? = some n := by rw [o.N]; exact hN
      have hgX : Gl X "isinstance" := o.gl hg
      have hbX := o.bl _ (List.contains_iff_mem.mp hb)
      have hxX : Gl X x := o.gl hx
      have hsX := hs X.env
      have key : ∀ (cv : Value) (w : V), PE X (.Name x p2) (tC w) → (∀ z, RelV w z → z = cv) → PySem.W.kitOne X.K (.ref C) cv = some (yes.contains c) → wpAny (model X.prog X.w) X.A (eval (.Call (.Name "isinstance" p0) [.Name n p1, .Name x p2] [] pos) X.env) (EP X pins σ Q) X.xe s := fun cv w pw hw hk => by
        subst e2
        have P := pe_callB (call_isX (X := X0) (pn := pn) f2 hz hf) hgX hbX (by decide +kernel) (p := p0) (pos := pos) (pa_cons (pe_var (X := X0.suite a ((a, oe) :: pn)) (i := j) (pos := p1) hNX hv hd hcd) (pa_cons pw pa_nil rfl) hsX) (by decide) (by decide) hsX rfl
        refine P.run pins s σ H Q I ⟨.ref a, ?_, w, cv, _, [(fl, u)], rfl, hw, hk, r.bs.b _ _ h4, ?_⟩
        · rw [← h2]
          exact h1
        · refine k _ B H (Ex.refl B) r ?_
          have eb : yes.contains c = decide (c ∈ yes) := by
            cases hcn : yes.contains c with
            | true => exact (decide_eq_true (List.contains_iff_mem.mp hcn)).symm
            | false => exact (decide_eq_false fun z => by rw [List.contains_iff_mem.mpr z] at hcn; cases hcn).symm
          rw [eb]
          exact .bl _
      rcases o.ef.ki _ hm C hmg with ⟨D, g1, g2⟩ | ⟨nm, g1, g2, g3, g4⟩
      · exact key (.ref D) (.ref D) (pe_glob hxX g1 rfl hxd) (fun z hz => hz) g2
      · exact key (.type nm) (.ty nm) (pe_bltn hxX g1 g2 rfl g3 hxd) (fun z hz => hz) g4
    · cases he
  · cases he⟩
end
end Ip

set_option Elab.async false
set_option linter.all false
set_option maxRecDepth 100000
set_option maxHeartbeats 4000000
namespace Ip
open PySem L2
/-! Constants of the module, methods of texts, a while that is not entered, more of what may raise. -/
section
variable {Γ : Gam} {e a b c : Expr} {es : List Expr} {ia ib ic i : IE} {ies : IEs} {pos pos' p0 p1 p2 apos : Pos} {x : Str} {s : Stmt} {ss : List Stmt} {is : IS} {iss : ISs} {d : D}
theorem con_se (n : Nat) (hg : GlS Γ.sc x := by rfl) (hm : Γ.gs[n]? = some (x, d) := by rfl) (hd : (x == ("__debug__" : Str)) = false := by decide) : SE Γ (.Name x pos) (.con d) := fun X p o => by
  obtain ⟨u, v, h1, h2, h3⟩ := o.ef.gc (x, d) (List.mem_of_getElem? hm)
  refine PE_weak (pe_glob (o.gl hg) h1 h2 hd) fun σ H Q q => ?_
  obtain ⟨st, B, M, F, env, d', st', r, he, k⟩ := q
  unfold ev at he
  cases he
  have h4 := h3 B
  rw [o.K] at h4
  exact k v B H (Ex.refl B) r h4
theorem most_5 {n : Nat} (h : n ≤ most) : n ≤ 5592405 := Nat.le_trans h (by decide)
theorem me0_rd {m : M0} {K : PySem.W.Frag} {cl : Cl} {p : Pa} {g : Str → Str} {σ : L2.St} {H : Hp} {Q : VK} (hm : ∀ x z, m0D m x = some z → ∃ s, x = .str s ∧ s.length ≤ most ∧ z = .str (g s)) (q : Tx K cl p (.me0 m i) σ H Q) :
    tM0 (fun x xs H Q => ∃ a, x = .str a ∧ xs = [] ∧ a.length ≤ 5592405 ∧ Q (.str (g a)) H) (Tx K cl p i) σ H Q := by
  obtain ⟨st, B, M, F, env, d, st', r, he, k⟩ := q
  unfold ev at he
  split at he
  · rename_i x st1 e1
    obtain ⟨z, e2, e3⟩ := Option.map_eq_some_iff.mp he
    cases e3
    obtain ⟨s, rfl, hl, rfl⟩ := hm _ _ e2
    refine ⟨st, B, M, F, env, _, _, r, e1, fun v B' H' x1 r' pv => ?_⟩
    cases pv
    exact ⟨⟨s, rfl⟩, s, rfl, rfl, most_5 hl, k _ B' H' x1 r' (.str _)⟩
  · cases he
theorem lower_se (h : SE Γ e i) (hbase : ∀ env, attributeBase e "lower" env (eval e env) = eval e env := by intro _; rfl) (hline : (apos.endLine == pos.line) = true := by rfl) : SE Γ (.Call (.Attribute e "lower" apos) [] [] pos) (.me0 .lower i) := fun X p o =>
  PE_weak (pe_lower (h X p o) (hbase _) hline) fun σ H Q q => me0_rd (g := Txt.lower) (fun x z e => by
    cases x with
    | str s =>
      obtain ⟨hl, rfl⟩ := ite_some (show (if s.length ≤ most then some (PyData.str (Txt.lower s)) else none) = some z from e)
      exact ⟨s, rfl, hl, rfl⟩
    | _ => cases e) q
theorem upper_se (h : SE Γ e i) (hbase : ∀ env, attributeBase e "upper" env (eval e env) = eval e env := by intro _; rfl) (hline : (apos.endLine == pos.line) = true := by rfl) : SE Γ (.Call (.Attribute e "upper" apos) [] [] pos) (.me0 .upper i) := fun X p o =>
  PE_weak (pe_upper (h X p o) (hbase _) hline) fun σ H Q q => me0_rd (g := Txt.upper) (fun x z e => by
    cases x with
    | str s =>
      obtain ⟨hl, rfl⟩ := ite_some (show (if s.length ≤ most then some (PyData.str (Txt.upper s)) else none) = some z from e)
      exact ⟨s, rfl, hl, rfl⟩
    | _ => cases e) q
theorem me1_rd {m : M1} {K : PySem.W.Frag} {cl : Cl} {p : Pa} {r : V → List V → Hp → VK → Prop} {σ : L2.St} {H : Hp} {Q : VK}
    (hr : ∀ {st B M F env x y z v u H}, Rel K p st B M F env σ H → Rp K B v x → Rp K B u y → m1D m x y = some z → ∀ Q : VK, (∀ w B' H', Ex B B' → Rel K p st B' M F env σ H' → Rp K B' w z → Q w H') → (∃ s, v = .str s) ∧ r v [u] H Q)
    (hs : ∀ x y z, m1D m x y = some z → ∃ s, x = .str s) (q : Tx K cl p (.me1 m ia ib) σ H Q) : tM1 r (Tx K cl p ia) (Tx K cl p ib) σ H Q := by
  obtain ⟨st, B, M, F, env, d, st', rl, he, k⟩ := q
  unfold ev at he
  split at he
  · rename_i x st1 e1
    split at he
    · rename_i y st2 e2
      obtain ⟨z, e3, e4⟩ := Option.map_eq_some_iff.mp he
      cases e4
      obtain ⟨s0, rfl⟩ := hs _ _ _ e3
      refine ⟨st, B, M, F, env, _, st1, rl, e1, fun v B1 H1 x1 r1 p1 => ?_⟩
      cases p1
      refine ⟨⟨s0, rfl⟩, st1, B1, M, F, env, y, _, r1, e2, fun u B2 H2 x2 r2 p2 => ?_⟩
      exact (hr r2 (.str s0) p2 e3 Q fun w B' H' x3 r3 p3 => k w B' H' ((x1.trans x2).trans x3) r3 p3).2
    · cases he
  · cases he
theorem removeprefix_se (ha : SE Γ a ia) (hb : SE Γ b ib) (hs : ∀ env, starEach [b] env = [(false, eval b env)] := by intro _; rfl) (hbase : ∀ env, attributeBase a "removeprefix" env (eval a env) = eval a env := by intro _; rfl) (hline : (apos.endLine == pos.line) = true := by rfl) :
    SE Γ (.Call (.Attribute a "removeprefix" apos) [b] [] pos) (.me1 .removeprefix ia ib) := fun X p o =>
  PE_weak (pe_m1 PySem.F.slot_str_removeprefix PySem.F.type_str_removeprefix mt_removeprefix (ha X p o) (hb X p o) (hs _) (hbase _) hline) fun σ H Q q => by
    refine me1_rd ?_ ?_ q
    · intro st B M F env x y z v u H r px py h Q k
      cases px with
      | str s =>
        cases py with
        | str t =>
          obtain ⟨hl, rfl⟩ := ite_some (show (if s.length ≤ most then some (PyData.str (Txt.removeprefix s t)) else none) = some z from h)
          exact ⟨⟨s, rfl⟩, s, t, rfl, rfl, most_line hl, k _ B H (Ex.refl B) r (.str _)⟩
        | _ => cases h
      | _ => cases py <;> (cases h; done)
    · intro x y z h
      cases x <;> first | exact ⟨_, rfl⟩ | (cases y <;> (cases h; done))
theorem strs_rp {K : PySem.W.Frag} {B : Hp} : ∀ {ds : List D} {vs : List V} {ys : List Str}, RpA K B vs ds → strsD ds = some ys → vs = ys.map V.str
  | [], _, ys, .nil, h => by
    cases h
    rfl
  | d :: ds, _, ys, .cons hv r, h => by
    cases d with
    | str s =>
      obtain ⟨ys', e1, e2⟩ := Option.map_eq_some_iff.mp (show (strsD ds).map (fun ss => s :: ss) = some ys from h)
      subst e2
      cases hv
      rw [strs_rp r e1]
      rfl
    | _ => cases h
theorem join_se (ha : SE Γ a ia) (hb : SE Γ b ib) (hs : ∀ env, starEach [b] env = [(false, eval b env)] := by intro _; rfl) (hbase : ∀ env, attributeBase a "join" env (eval a env) = eval a env := by intro _; rfl) (hline : (apos.endLine == pos.line) = true := by rfl) :
    SE Γ (.Call (.Attribute a "join" apos) [b] [] pos) (.me1 .join ia ib) := fun X p o =>
  PE_weak (pe_join (ha X p o) (hb X p o) (hs _) (hbase _) hline) fun σ H Q q => by
    rw [o.K]
    refine me1_rd ?_ ?_ q
    · intro st B M F env x y z v u H r px py h Q k
      cases px with
      | str s =>
        cases py with
        | @lst l xs ds hx rx =>
          have h' : (match strsD ds with
            | some ys => if (ys.map (·.length)).sum + ys.length * s.length ≤ 16777216 then some (PyData.str (Txt.join s ys)) else none
            | none => none) = some z := h
          split at h'
          · rename_i ys e1
            obtain ⟨hl, rfl⟩ := ite_some h'
            rw [strs_rp rx e1] at hx
            exact ⟨⟨s, rfl⟩, s, l, ys, rfl, rfl, .inl (Or.inl (Or.inl (r.bs.b _ _ hx))), hl, k _ B H (Ex.refl B) r (.str _)⟩
          · cases h'
        | _ => cases h
      | _ => cases py <;> (cases h; done)
    · intro x y z h
      cases x <;> first | exact ⟨_, rfl⟩ | (cases y <;> (cases h; done))
/-! ### a while that is not entered -/
theorem PSs_no {X : Cx} : PSs X ss (fun _ _ _ => False) := ⟨fun pins s σ H D I q => q.elim⟩
theorem ss_whl (h : ST Γ c ic) : SS Γ (.While c ss [] pos) (.whl ic) := fun X p o => PS_weak (ps_while o.own (h X p o.toOkx) PSs_no) fun D σ H q => by
  obtain ⟨st, B, M, F, env, out, r, he, k⟩ := q
  unfold evS at he
  split at he
  · rename_i st1 e1
    cases he
    refine ⟨fun _ σ' H' => σ' = σ ∧ H' = H, ⟨0, rfl, rfl⟩, ?_⟩
    rintro m σ2 H2 ⟨h1, h2⟩
    rw [h1, h2]
    exact ⟨st, B, M, F, env, false, _, r, e1, fun B' H' x r' => iteF (k B' M σ H' x r')⟩
  · cases he
/-! ### marks -/
theorem qt_se (h : SE Γ e i) : SE Γ e (.qt i) := fun X p o => PE_weak (h X p o) fun σ H Q q => by
  obtain ⟨st, B, M, F, env, d, st', r, he, k⟩ := q
  unfold ev at he
  exact ⟨st, B, M, F, env, d, st', r, he, k⟩
theorem qt_sx (h : SE Γ e i) : SX Γ e (.qt i) := sx_of (qt_se h) fun _ _ => rfl
theorem ss_calm (h : SS Γ s is) : SS Γ s (.calm is) := fun X p o => PS_weak (h X p o) fun D σ H q => by
  obtain ⟨st, B, M, F, env, out, r, he, k⟩ := q
  unfold evS at he
  exact ⟨st, B, M, F, env, out, r, he, k⟩
theorem ss_rse0 : SS Γ s (.rse x i) := fun X p o => ⟨fun pins s σ H D I q => by
  obtain ⟨st, B, M, F, env, out, r, he, k⟩ := q
  unfold evS at he
  cases he⟩
theorem lit_el {x y : Str} {es : List (Str × Str)} (h : es.contains (x, y) = true) : (x, y) ∈ es := List.contains_iff_mem.mp h
theorem chn_st {op op' : CmpOp} {o1 o2 : Cop} (C : CmpOk op o1) (C' : CmpOk op' o2) (ha : SE Γ a ia) (hb : SE Γ b ib) (hc : SE Γ c ic) (hm : lastMarks [op, op'] [b, c] = false := by with_unfolding_all rfl) :
    ST Γ (.Compare a [op, op'] [b, c] pos) (.chn o1 o2 ia ib ic) := fun X p ok =>
  PT_weak (pt_chain (C.ok X (by have := ok.units; omega)) (C'.ok X (by have := ok.units; omega)) (ha X p ok) (hb X p ok) (hc X p ok) hm) fun σ H Q q => by
    rw [ok.K]
    obtain ⟨st, B, M, F, env, b, st', r, he, k⟩ := q
    refine tx_chn C C' ⟨st, B, M, F, env, _, st', r, he, fun v B' H' x r pv => ?_⟩
    cases pv
    exact ⟨b, rfl, k B' H' x r⟩
/-! ### one part -/
theorem js1_se (h : SE Γ e i) : SE Γ (.JoinedStr [e] pos) i := fun X p o => pe_joined1 (h X p o)
/-! ### what may raise -/
theorem add_rd {K : PySem.W.Frag} {p : Pa} {σ : L2.St} {st : Pl} {B M F : Hp} {env : List Sl} {x y z : D} {v u : V} {H : Hp} (r : Rel K p st B M F env σ H) (px : Rp K B v x) (py : Rp K B u y) (h : binD .add x y = some z) (Q : VK)
    (k : ∀ w B' H', Ex B B' → Rel K p st B' M F env σ H' → Rp K B' w z → Q w H') : rAddD K v u H Q := by
  cases px with
  | int i =>
    cases py with
    | int j =>
      cases h
      exact .inl (.inl ⟨i, j, rfl, rfl, k _ B H (Ex.refl B) r (.int _)⟩)
    | _ => cases h
  | str s =>
    cases py with
    | str t =>
      obtain ⟨hl, rfl⟩ := ite_some (show (if s.length + t.length ≤ most then some (PyData.str (s ++ t)) else none) = some z from h)
      exact .inl (.inr ⟨s, t, rfl, rfl, most_line hl, k _ B H (Ex.refl B) r (.str _)⟩)
    | _ => cases h
  | @lst _ _ xs hx rx =>
    cases py with
    | @lst _ _ ys hy ry =>
      obtain ⟨hl, rfl⟩ := ite_some (show (if xs.length + ys.length ≤ most then some (PyData.list (xs ++ ys)) else none) = some z from h)
      refine .inr (.inl ⟨_, _, _, _, rfl, rfl, r.bs.b _ _ hx, r.bs.b _ _ hy, most_line (by rw [rx.length, ry.length]; exact hl), fun q hq => ?_⟩)
      exact k (.ref q) _ _ (Ex.new (r.bs.b.free hq)) (r.new hq) (.lst upd_same ((rx.append ry).mono (Ex.new (r.bs.b.free hq))))
    | _ => cases h
  | @tup _ _ xs hx rx =>
    cases py with
    | @tup _ _ ys hy ry =>
      obtain ⟨hl, rfl⟩ := ite_some (show (if xs.length + ys.length ≤ most then some (PyData.tuple (xs ++ ys)) else none) = some z from h)
      refine .inr (.inr ⟨_, _, _, _, rfl, rfl, sqt_mono r.bs.b hx, sqt_mono r.bs.b hy, most_line (by rw [rx.length, ry.length]; exact hl), fun e => ?_, fun e1 e2 => ?_, fun e1 e2 q hq => ?_⟩)
      · subst e
        cases rx
        exact k _ B H (Ex.refl B) r (.tup hy ry)
      · subst e2
        cases ry
        rw [List.append_nil] at k
        exact k _ B H (Ex.refl B) r (.tup hx rx)
      · exact k (.ref q) _ _ (Ex.new (r.bs.b.free hq)) (r.new hq) (.tup (Or.inl (Or.inl upd_same)) ((rx.append ry).mono (Ex.new (r.bs.b.free hq))))
    | _ => cases h
  | _ => cases h
theorem sx_add (ha : SX Γ a ia) (hb : SX Γ b ib) : SX Γ (.BinOp a .Add b pos) (.bin .add ia ib) := fun X p W ok tk =>
  PE_weak (pe_op (OpR.or (OpR.or op_add op_add_str) (OpR.or op_cat op_catA)) (ha X p W ok tk) (hb X p W ok tk)) fun σ H Q q => by
    rw [ok.K]
    exact txx_two (f := binD .add) (fun env st => rfl) (fun env st => rfl) (fun r1 p1 p2 e Q k => add_rd r1 p1 p2 e Q k) q
theorem csts_rp {K : PySem.W.Frag} {p : Pa} {B : Hp} : ∀ cs : List Cst, ArA K p B (cs.map Cst.v) (cs.map fun c => some c.d)
  | [] => .nil
  | c :: cs => .cons (by cases c <;> constructor) (csts_rp cs)
/-- a call whose last parameters are filled up -/
theorem sx_calld {cs : List Cst} (n : Nat) (h : SG Γ (e :: es) ies) (hh : Γ.hot = false := by rfl) (hf : Γ.df[n]? = some (x, cs) := by rfl) (hg : GlS Γ.sc x := by rfl) (hdb : (x == ("__debug__" : Str)) = false := by decide)
    (he : ∀ env, starEach (e :: es) env = (false, eval e env) :: starEach es env := by intro _; rfl) (hpl : ∀ env, (backTo pos (starEach es env)).any (·.1) = false := by intro _; rfl) :
    SX Γ (.Call (.Name x p0) (e :: es) [] pos) (.calld x ies cs) := fun X p W o tk => ⟨fun pins s σ H Q I q => by
  obtain ⟨fa, fd, ps, k, us0, F, hm, hk, hb, hv, hr⟩ := o.df hh _ (List.mem_of_getElem? hf)
  have fill : ∀ {B : Hp} {vs : List V} {ds : List (Option D)}, ArA Γ.K p.o B vs ds → ArA Γ.K p.o B (vs ++ cs.map Cst.v) (ds ++ cs.map fun c => some c.d) := fun {B vs ds} r => by
    induction r with
    | nil => exact csts_rp cs
    | cons h1 _ ih => exact .cons h1 ih
    | pool _ ih => exact .pool ih
    | cell h1 _ ih => exact .cell h1 ih
  refine wpAny_Call_Name_kw (ld_glob I (o.gl hg) hm ?_ hdb)
  have go : ∀ (T : TA), T σ H (fun vs H1 => spG X.mg Γ.es Γ.K Γ.cl x (vs ++ cs.map Cst.v) H1 Q (WE W σ)) → PA X (e :: es) T → wpAny (model X.prog X.w) X.A (callWith pos (.ref fa) [] (backTo pos (starEach (e :: es) X.env)) (backToKw pos (keywordEach [] X.env))) (EP X pins σ Q) X.xe s := fun T hT hp => by
    refine PySem.W.callWith_K (h₀ := X.base) I.ok.mod.kin hk (thn (hp.run pos pins s σ H _ I hT) fun us s1 ⟨vs, H1, I1, r, q1⟩ => ⟨I1.kIn, ?_⟩) (he _) (hpl _)
    have r2 : Vals (vs ++ cs.map Cst.v) (us ++ us0) := r.append hv
    have hl2 : (us ++ us0).length = ps.length := by rw [← r2.length]; exact F.len _ _ _ _ q1
    refine wpAny_call (codeAny_mono (F.run X.A X.stack s1 H1 ⟨us, []⟩ (us ++ us0) (vs ++ cs.map Cst.v) Q (WE W σ) hr I1.env0 (hb s1 us I1.kIn hl2) r2 q1) fun r s' hq => ?_)
    cases r with
    | error e => exact L2N.passAt tk σ pins H1 s1 e s' I1 hq
    | ok fl =>
      cases fl with
      | ret u => exact I1.after hq
      | next => exact False.elim hq
      | brk => exact False.elim hq
      | cont => exact False.elim hq
  refine go (Tg Γ.K Γ.cl p ies) ?_ (h X p o)
  obtain ⟨st, B, M, F0, env, r, q⟩ := q
  rcases q with ⟨d, st', he, k⟩ | ⟨er, st', he, k⟩
  · unfold ev at he
    cases e1 : ag Γ.cl ies env st with
    | none =>
      rw [e1] at he
      cases he
    | some ys =>
      obtain ⟨ys, st1⟩ := ys
      rw [e1] at he
      exact ⟨st, B, M, F0, env, ys, st1, r, e1, fun vs B1 H1 x1 r1 p1 => ⟨p.o, st1, B1, uni M F0, _, ⟨rfl, rfl, rfl, o.tb⟩, r1.call.o, fill p1.o, .inl ⟨d, st', he, fun v B' H' x2 w pv => k v B' H' (x1.trans x2) (r1.back x2 w.u) pv⟩⟩⟩
  · unfold xv at he
    cases e1 : ag Γ.cl ies env st with
    | none =>
      rw [e1] at he
      cases he
    | some ys =>
      obtain ⟨ys, st1⟩ := ys
      simp only [e1] at he
      cases e2 : Γ.cl (bang x) (ys ++ cs.map fun c => some c.d) st1 with
      | none =>
        rw [e2] at he
        cases he
      | some z =>
        obtain ⟨z, st2⟩ := z
        rw [e2] at he
        obtain ⟨er', e3, e4⟩ := Option.map_eq_some_iff.mp he
        cases e4
        exact ⟨st, B, M, F0, env, ys, st1, r, e1, fun vs B1 H1 x1 r1 p1 => ⟨p.o, st1, B1, uni M F0, _, ⟨rfl, rfl, rfl, o.tb⟩, r1.call.o, fill p1.o, .inr ⟨z, _, _, e2, e3, fun cls d B' H' x2 w rz => k cls d B' H' (x1.trans x2) (r1.back x2 w.u) rz⟩⟩⟩⟩
theorem ssx_app (n : Nat) (h : SX Γ e i) (hN : Γ.N[n]? = some x := by rfl) (hv : Vis Γ.sc x := by first | exact Or.inl rfl | exact Or.inr (Or.inl rfl) | exact Or.inr (Or.inr rfl)) (hd : (x == ("__debug__" : Str)) = false := by decide) (hcd : (x == ("__classdict__" : Str)) = false := by decide)
    (hbase : ∀ env, attributeBase (.Name x p0) "append" env (eval (.Name x p0) env) = eval (.Name x p0) env := by intro _; rfl)
    (hfew : ∀ env, ((backTo p2 (starEach [e] env)).all (fun x => !x.1) && (backToKw p2 (keywordEach [] env)).all (fun x => x.1.isSome) && decide (([e] : List Expr).length + ([] : List Keyword).length + (if ([] : List Keyword).isEmpty then 0 else 1) < 30)) = true := by intro _; rfl)
    (hline : (p1.endLine == p2.line) = true := by rfl) (hs : ∀ env, starEach [e] env = (false, eval e env) :: starEach [] env := by intro _; rfl) (hsw : ∀ env, swapsWith (.Call (.Attribute (.Name x p0) "append" p1) [e] [] p2) none pos.line env = pure false := by intro _; rfl) :
    SSX Γ (.Expr (.Call (.Attribute (.Name x p0) "append" p1) [e] [] p2) pos) (.app n i) := fun X p W o tk =>
  PS_weak (ps_expr (pe_bm PySem.F.plainAttrs_list PySem.F.slot_list_append PySem.F.type_list_append mt_append (pe_var (i := n) (by rw [o.N]; exact hN) (by rw [o.sc]; exact hv) hd hcd) (pa_cons (h X p W o.toOkx tk) pa_nil (hs _)) (hbase _) (hfew _) hline (hs _) rfl) (hsw _)) fun D σ H q => by
    obtain ⟨st, B, M, F, env, r, q⟩ := q
    rcases q with ⟨out, he, k⟩ | ⟨er, env1, st1, he, k⟩
    · unfold evS at he
      split at he
      · rename_i d st1 e1
        split at he
        · rename_i ds e2
          obtain ⟨hl, he⟩ := ite_some he
          subst he
          obtain ⟨w, h1, h2⟩ := r.en.at_ n _ e2
          cases w with
          | none => exact h2.elim
          | some v =>
            cases v with
            | ref a =>
              obtain ⟨xs, h3, h4⟩ := h2
              refine ⟨_, h1, .inl ⟨rfl, xs, Or.inl (Or.inl (r.m _ _ h3))⟩, st, B, M, F, env, r, .inl ⟨d, st1, e1, fun v B' H' x r' pv => ?_⟩⟩
              refine ⟨a, xs, v, rfl, rfl, r'.m _ _ h3, most_lt (by rw [h4.length]; exact hl), ?_⟩
              exact k B' _ σ _ x (r'.grow e2 h1 h3 ((h4.mono x).append (.one pv)))
            | _ => exact h2.elim
        · cases he
      · cases he
    · unfold xvS at he
      split at he
      · rename_i ds e2
        obtain ⟨⟨er', st2⟩, e1, e3⟩ := Option.map_eq_some_iff.mp he
        cases e3
        obtain ⟨w, h1, h2⟩ := r.en.at_ n _ e2
        cases w with
        | none => exact h2.elim
        | some v =>
          cases v with
          | ref a =>
            obtain ⟨xs, h3, h4⟩ := h2
            exact ⟨_, h1, .inl ⟨rfl, xs, Or.inl (Or.inl (r.m _ _ h3))⟩, st, B, M, F, env, r, .inr ⟨er', st2, e1, fun cls d B' H' x r' z => k cls d B' M σ H' x r' z⟩⟩
          | _ => exact h2.elim
      · cases he
end
end Ip

set_option Elab.async false
set_option linter.all false
set_option maxRecDepth 100000
set_option maxHeartbeats 4000000
namespace Ip
open PySem L2 PySem.W He NdefX
/-! The head's hook with one question more; the errors' facts from it. -/
abbrev AlF : Type := AlE × Bool
def obsF (P : Program) (fa : List Fa) (fn : List DefD) (er : List ErrD) (ex : Frag → Bool) (K : Frag) : AlF := (obsE P fa fn er K, ex K)
def valF (fn : List DefD) (er : List ErrD) : AlF := (valE fn er, true)
def SaysF (P : Program) (fa : List Fa) (fn : List DefD) (er : List ErrD) (ex : Frag → Bool) (K : Frag) : Prop := obsF P fa fn er ex K = valF fn er
def obsFG (n : Nat) (P : Program) (fa : List Fa) (fn : List DefD) (er : List ErrD) (ex : Frag → Bool) (g : Addr → Option Obj) : AlF := obsF P fa fn er ex (frG g (asE g n))
def hookF (n : Nat) (P : Program) (fa : List Fa) (fn : List DefD) (er : List ErrD) (ex : Frag → Bool) : PySem.W.Hook where
  α := AlF
  obs := fun s => obsFG n P fa fn er ex s.heap.get?
  val := fun _ => valF fn er
  says := fun _ h => ∃ K : Frag, K.In h ∧ SaysF P fa fn er ex K
  of := fun _ _ e => ⟨_, frG_in, e⟩
  keeps := fun _ _ _ q k => q.elim fun K q => ⟨K, PySem.W.Frag.In.keeps q.1 k, q.2⟩
theorem obsFG_eq {n : Nat} {P : Program} {fa : List Fa} {fn : List DefD} {er : List ErrD} {ex : Frag → Bool} {g : Addr → Option Obj} {s : Shared} (h : ∀ a, g a = s.heap.get? a) : obsFG n P fa fn er ex g = (hookF n P fa fn er ex).obs s := by
  obtain rfl : g = s.heap.get? := funext h
  rfl
theorem SaysF.e {P : Program} {fa : List Fa} {fn : List DefD} {er : List ErrD} {ex : Frag → Bool} {K : Frag} (c : SaysF P fa fn er ex K) : SaysE P fa fn er K := congrArg (fun z : AlF => z.1) c
theorem SaysF.d {P : Program} {fa : List Fa} {fn : List DefD} {er : List ErrD} {ex : Frag → Bool} {K : Frag} (c : SaysF P fa fn er ex K) : SaysD fa fn K := c.e.old
theorem SaysF.ex {P : Program} {fa : List Fa} {fn : List DefD} {er : List ErrD} {ex : Frag → Bool} {K : Frag} (c : SaysF P fa fn er ex K) : ex K = true := congrArg (fun z : AlF => z.2) c
/-! ### the errors' classes -/
def excB (K : Frag) (D : Addr) : Bool := eqO (findIn K (.ref D) "__getattribute__") (some (some (.builtin "BaseException.__getattribute__"))) && (eqO (findIn K (.ref D) "__getattr__") (some none) && (decide (subIn K (.ref D) (.type "BaseException") = some true) && (hasDictIn K D
  && (eqO (findIn K (.ref D) "__class__") (some (some (.builtin "object.__class__"))) && (eqO (specialIn K (.builtin "object.__class__") "__get__") (some (some (.builtin "getset_descriptor.__get__"))) && (decide (takesIn K (.builtin "object.__class__") = some true) && decide (mroIn K D (.type "object") = some true)))))))
theorem excB_ok {K : Frag} {D : Addr} (h : excB K D = true) : ExcC K D := by
  unfold excB at h
  simp only [Bool.and_eq_true, decide_eq_true_eq] at h
  obtain ⟨h1, h2, h3, h4, h5, h6, h7, h8⟩ := h
  exact ⟨eqO_ok h1, eqO_ok h2, h3, h4, eqO_ok h5, eqO_ok h6, h7, h8⟩
def clB (K : Frag) (es : List (Str × Str)) : Bool := es.all fun q => xfB K (ga K q.1) && (excB K (ga K q.1) && eqO (findIn K (.ref (ga K q.1)) q.2) (some none))
/-- the names of built-in classes -/
def clsV (K : Frag) (bn : List (Str × String)) (x : Str) : Value := match bn.lookup x with
  | some n => .type n
  | none => .ref (ga K x)
def kiB (K : Frag) (bn : List (Str × String)) (ks : List (Str × Str × Bool)) : Bool := ks.all fun q => decide (kitOne K (.ref (ga K q.1)) (clsV K bn q.2.1) = some q.2.2)
def trB (K : Frag) (ts : List (Str × Str × Bool)) : Bool := ts.all fun q => decide (exmOne K (.ref (ga K q.1)) (.ref (ga K q.2.1)) = some q.2.2)
def errsB (bn : List (Str × String)) (es : List (Str × Str)) (ks ts : List (Str × Str × Bool)) (K : Frag) : Bool := clB K es && (kiB K bn ks && trB K ts)
theorem errFacts_of {Γ : Gam} {K : Frag} {mg : Str → Option Value} (own : List Str) (bn : List (Str × String)) (hb : errsB bn Γ.es Γ.ks Γ.ts K = true) (hg : ∀ x ∈ own, mg x = some (.ref (ga K x)))
    (h1 : (Γ.es.all fun q => own.contains q.1) = true) (h2 : (Γ.ks.all fun q => own.contains q.1 && ((bn.lookup q.2.1).isSome || own.contains q.2.1)) = true) (h3 : (Γ.ts.all fun q => own.contains q.1 && own.contains q.2.1) = true)
    (hn : ∀ x n, bn.lookup x = some n → mg x = none ∧ bootBuiltins x = some (.type n) ∧ x ≠ "__name__") (gc : ∀ q ∈ Γ.gs, ∃ u v, mg q.1 = some u ∧ RelV v u ∧ ∀ B, Rp K B v q.2) : ErrFacts Γ K mg where
  cl := fun q hq C hC => by
    obtain ⟨b1, _⟩ := Bool.and_eq_true_iff.mp hb
    have z := List.all_eq_true.mp b1 q hq
    simp only [Bool.and_eq_true] at z
    obtain ⟨z1, z2, z3⟩ := z
    rw [hg _ (List.contains_iff_mem.mp (List.all_eq_true.mp h1 q hq))] at hC
    cases hC
    exact ⟨xfB_ok z1, excB_ok z2, eqO_ok z3⟩
  ki := fun q hq C hC => by
    obtain ⟨_, b2⟩ := Bool.and_eq_true_iff.mp hb
    obtain ⟨b2, _⟩ := Bool.and_eq_true_iff.mp b2
    have z := of_decide_eq_true (List.all_eq_true.mp b2 q hq)
    have y := List.all_eq_true.mp h2 q hq
    simp only [Bool.and_eq_true] at y
    obtain ⟨y1, y2⟩ := y
    rw [hg _ (List.contains_iff_mem.mp y1)] at hC
    cases hC
    unfold clsV at z
    cases e : bn.lookup q.2.1 with
    | some n =>
      rw [e] at z
      obtain ⟨n1, n2, n3⟩ := hn _ _ e
      exact .inr ⟨n, n1, n2, n3, z⟩
    | none =>
      rw [e] at z y2
      exact .inl ⟨_, hg _ (List.contains_iff_mem.mp (by simpa using y2)), z⟩
  tr := fun q hq C hC => by
    obtain ⟨_, b2⟩ := Bool.and_eq_true_iff.mp hb
    obtain ⟨_, b3⟩ := Bool.and_eq_true_iff.mp b2
    have z := of_decide_eq_true (List.all_eq_true.mp b3 q hq)
    have y := List.all_eq_true.mp h3 q hq
    simp only [Bool.and_eq_true] at y
    rw [hg _ (List.contains_iff_mem.mp y.1)] at hC
    cases hC
    exact ⟨_, hg _ (List.contains_iff_mem.mp y.2), z⟩
  gc := gc
/-! ### defs that may raise, in the table -/
section
variable {P : Program} {w : World} {K : Frag} {mg : Str → Option Value} {base : Heap}
theorem fog_step {k : Nat} {f : Str} {st : Stmt} {N ps : List Str} {Γ : Gam} {I : IF} {cl : Cl} {es : List (Str × Str)} (h : Hv K mg f st ps) (S : FnScope N ps (defScope st)) (hh : Γ.hot = false) (hK : Γ.K = K) (hN : Γ.N = N) (hsc : Γ.sc = defScope st) (he : Γ.es = es) (hb : SSsX Γ (defBody st) I.body) (hn : I.n = N.length)
    (hcl : ∀ as s, cl f as s = runI ps.length Γ.cl I as s) (hcx : ∀ as s, cl (bang f) as s = runX ps.length Γ.cl I as s) (a : Av P w K mg base k Γ) (hio : Γ.io = none := by rfl) (hfr : Γ.fr = false := by rfl) : FoG P w K mg base (k + 1) es cl f := by
  obtain ⟨fa, fd, dvs, F, hm, hbn⟩ := h
  subst he
  exact ⟨fa, fd, ps, fnx_ok F S hh hK hN hsc hb hn hcl hcx a hio hfr, hm, F.kp, hbn⟩
theorem fod_zero {k : Nat} {es : List (Str × Str)} {f : Str} {cs : List Cst} {st : Stmt} {ps : List Str} (h : HvD K mg f st ps cs) : ∃ fa fd ps us, FnOk P w K mg base (L2N.CX P w) k fa fd ps (spG mg es K noCl f) ∧ mg f = some (.ref fa) ∧ keepIn K (.ref fa) = true ∧ Binds K fd ps us ∧ Vals (cs.map Cst.v) us := by
  obtain ⟨fa, fd, dvs, us, F, hm, hb, hv⟩ := h
  have no : ∀ vs H Q E, ¬ spG mg es K noCl f vs H Q E := fun vs H Q E q => by
    obtain ⟨_, _, _, _, _, _, _, _, q⟩ := q
    rcases q with ⟨_, _, e, _⟩ | ⟨_, _, _, e, _⟩
    · cases e
    · cases e
  exact ⟨fa, fd, ps, us, ⟨fun vs H Q E q => (no _ _ _ _ q).elim, fun A outer s H args us vs Q E _ _ _ _ q => (no _ _ _ _ q).elim⟩, hm, F.kp, hb, hv⟩
theorem fod_step {k : Nat} {f : Str} {cs : List Cst} {st : Stmt} {N ps : List Str} {Γ : Gam} {I : IF} {cl : Cl} {es : List (Str × Str)} (h : HvD K mg f st ps cs) (S : FnScope N ps (defScope st)) (hh : Γ.hot = false) (hK : Γ.K = K) (hN : Γ.N = N) (hsc : Γ.sc = defScope st) (he : Γ.es = es) (hb : SSsX Γ (defBody st) I.body) (hn : I.n = N.length)
    (hcl : ∀ as s, cl f as s = runI ps.length Γ.cl I as s) (hcx : ∀ as s, cl (bang f) as s = runX ps.length Γ.cl I as s) (a : Av P w K mg base k Γ) (hio : Γ.io = none := by rfl) (hfr : Γ.fr = false := by rfl) : ∃ fa fd ps us, FnOk P w K mg base (L2N.CX P w) (k + 1) fa fd ps (spG mg es K cl f) ∧ mg f = some (.ref fa) ∧ keepIn K (.ref fa) = true ∧ Binds K fd ps us ∧ Vals (cs.map Cst.v) us := by
  obtain ⟨fa, fd, dvs, us, F, hm, hbn, hv⟩ := h
  subst he
  exact ⟨fa, fd, ps, us, fnx_ok F S hh hK hN hsc hb hn hcl hcx a hio hfr, hm, F.kp, hbn, hv⟩
end
/-! ### constants -/
theorem gc_int {K : Frag} {mg : Str → Option Value} {x : Str} {i : Int} (h : ∃ t, mg x = some (.int i t)) : ∃ u v, mg x = some u ∧ RelV v u ∧ ∀ B, Rp K B v (.int i) := by
  obtain ⟨t, h⟩ := h
  exact ⟨_, .int i, h, ⟨t, rfl⟩, fun _ => .int i⟩
theorem gc_str {K : Frag} {mg : Str → Option Value} {x s : Str} (h : ∃ t, mg x = some (.str s t)) : ∃ u v, mg x = some u ∧ RelV v u ∧ ∀ B, Rp K B v (.str s) := by
  obtain ⟨t, h⟩ := h
  exact ⟨_, .str s, h, ⟨t, rfl⟩, fun _ => .str s⟩
/-- a flat constant, as the head tells it -/
def dvD : Cst → Dv
  | .non => .non
  | .bl b => .bl b
  | .int i => .int i
  | .str s => .str s
theorem dv_rp {K : Frag} {B : Hp} : ∀ cs : List Cst, RpA K B ((cs.map dvD).map (Dv.v K)) (cs.map Cst.d)
  | [] => .nil
  | c :: cs => .cons (by cases c <;> constructor) (dv_rp cs)
theorem gc_tup {K : Frag} {mg : Str → Option Value} {x : Str} (cs : List Cst) (h : mg x = some (.ref (ga K x))) (hb : tupB K x (cs.map dvD) = true) : ∃ u v, mg x = some u ∧ RelV v u ∧ ∀ B, Rp K B v (.tuple (cs.map Cst.d)) :=
  ⟨_, .ref (ga K x), h, rfl, fun B => .tup (tupB_ok hb B) (dv_rp cs)⟩
/-! ### an own error -/
theorem errFo_of {P : Program} {w : World} {K : Frag} {mg : Str → Option Value} {base : Heap} {d : ErrD} {n : Nat} {sn x : Str} {p0 p1 p2 p3 p4 p5 p6 pm pos pos' : Pos} {m1 m2 : Expr} {ms : List Expr} {ar : Arg} {pl : Env → Sem Bool} {k : Nat}
    (e : errW K d.x = d.val) (b : errB P K d.x d.fld = true) (hg : mg d.x = some (.ref (ga K d.x))) (hs : mg "super" = none) (ht : (P.main.scope.names.lookup ("super" : Str)).isSome = false) (hsc : NScope [sn, x, ("__class__" : Str)] [sn, x] [("__class__" : Str)] d.scope)
    (har : (d.params.posonlyargs ++ d.params.args).head? = some ar) (hsn : ar.arg = sn) (hks : d.scope.names.lookup ("super" : Str) = some .globalImplicit)
    (hb : d.body = [.Expr (.Call (.Attribute (.Call (.Name "super" p0) [] [] p1) "__init__" p2) [.JoinedStr (m1 :: m2 :: ms) pm] [] pos) pos', .Assign [.Attribute (.Name sn p3) d.fld p4] (.Name x p5) p6])
    (hm : Msg x (m1 :: m2 :: ms) n) (hn : n ≤ 90000) (d1 : (sn == ("__debug__" : Str)) = false) (d2 : (sn == ("__classdict__" : Str)) = false) (d3 : (x == ("__debug__" : Str)) = false) (d4 : (x == ("__classdict__" : Str)) = false)
    (hc : ∀ env, eval (.Call (.Attribute (.Call (.Name "super" p0) [] [] p1) "__init__" p2) [.JoinedStr (m1 :: m2 :: ms) pm] [] pos) env = (do
      let ov ← attributeBase (.Call (.Name "super" p0) [] [] p1) "__init__" env (eval (.Call (.Name "super" p0) [] [] p1) env)
      standAt p2.atName
      let (f, first) ← holding [ov] (getMethod ov "__init__" (pl env))
      callWith pos f first (backTo pos (starEach [.JoinedStr (m1 :: m2 :: ms) pm] env)) (backToKw pos (keywordEach [] env))))
    (hs1 : ∀ env, swapsWith (.Call (.Attribute (.Call (.Name "super" p0) [] [] p1) "__init__" p2) [.JoinedStr (m1 :: m2 :: ms) pm] [] pos) none pos'.line env = pure false) (hs2 : ∀ env, swapsWith (.Name x p5) (some (.Attribute (.Name sn p3) d.fld p4)) p6.line env = pure false)
    (hbd : ∀ (doc pm ct : Value) (us : List Value), us.length = 2 → bindArgs ((d.F K).fd doc pm ct) ⟨us, []⟩ = pure (([sn, x] : List Str).zip us)) : ∃ C, ErrFo P w K mg base (k + 2) d.x d.fld C := by
  obtain ⟨E0, h1, h2⟩ := err_ok (sn := sn) e b hs ht
  obtain ⟨fd, ⟨doc, pmm, ct, rfl⟩, FI⟩ := init1_ok (CX := L2N.CX P w) (P := P) (w := w) (base := base) (k := 0) E0 hsc har hsn hks hb hm hn d1 d2 d3 d4 hc hs1 hs2
  exact ⟨_, hg, E0.oex, _, _, 1, [sn, x], by omega, h1, h2, FI, .all (hbd doc pmm ct)⟩
end Ip

set_option Elab.async false
set_option linter.all false
set_option maxRecDepth 100000
set_option maxHeartbeats 4000000
/-! A generator's if and for. -/
namespace L2N
open PySem PySem.Spec PyProof.Rows GenW L2
section
variable {M0 : Model} {Ar : Around} {Re : GenEnd} {Yy : Protocol} {nn : Nat} {z₀ z : Shared} {co : Code} {fr : List Frame} {en : Env}
  {Kk : Flow → Sem PySem.Fin} {Hh : Value → Sem PySem.Fin} {gg : Bool → Bool} {ll : List Value → List Value}
theorem sg_if {tst : Expr} {b1 b2 : List Stmt} {ps : Pos}
    (h : wpAny M0 (Ar.over co fr) (isTrue tst en (eval tst en)) (fun b z1 => Seg M0 Ar Re Yy nn z₀ co ((execs (if b = true then b1 else b2) en).wrap Kk Hh gg ll) fr z1) (fun x z1 => Seg M0 Ar Re Yy nn z₀ co (Hh x) fr z1) z) :
    Seg M0 Ar Re Yy nn z₀ co ((exec (.If tst b1 b2 ps) en).wrap Kk Hh gg ll) fr z := by
  rw [exec_If]
  show Seg M0 Ar Re Yy nn z₀ co (.at ps fun _ => ((isTrue tst en (eval tst en)) >>= fun b => if b = true then execs b1 en else execs b2 en).wrap Kk Hh gg ll) fr z
  refine seg_at ?_
  rw [Sem.bind_eq_wrap', Sem.wrap_wrap]
  refine seg_wrap (wpAny_mono h (fun b z1 hb => ?_) fun _ _ x => x)
  cases b with
  | true => exact hb
  | false => exact hb
theorem sg_for {tgt itr : Expr} {bd : List Stmt} {ps : Pos} (hs : ∀ x, foldedSetIterable itr en x = pure x)
    (h : wpAny M0 (Ar.over co fr) (eval itr en) (fun v z1 => wpAny M0 (Ar.over co fr) (pyIter v) (fun it z2 => ∀ p, Seg M0 Ar Re Yy nn z₀ (.forLoop tgt it bd [] en) (M0.den (.forLoop tgt it bd [] en))
        (.ret (fun r => ((match r with | .ok f => (.pure f : Sem Flow) | .error e => .raise e).onRaise (cameBack en)).wrap Kk Hh gg ll) none (gg false) (ll []) co p [] :: fr) z2) (fun x z2 => Seg M0 Ar Re Yy nn z₀ co (Hh x) fr z2) z1) (fun x z1 => Seg M0 Ar Re Yy nn z₀ co (Hh x) fr z1) z) :
    Seg M0 Ar Re Yy nn z₀ co ((exec (.For tgt itr bd [] ps) en).wrap Kk Hh gg ll) fr z := by
  rw [exec_For]
  show Seg M0 Ar Re Yy nn z₀ co (.at ps fun _ => ((eval itr en) >>= fun v => (foldedSetIterable itr en v >>= fun x => (standAt itr.pos >>= fun _ => (holding [x] (pyIter x) >>= fun it => runOwn (.forLoop tgt it bd [] en) en)))).wrap Kk Hh gg ll) fr z
  refine seg_at ?_
  rw [Sem.bind_eq_wrap', Sem.wrap_wrap]
  refine seg_wrap (wpAny_mono h (fun v z1 h1 => ?_) fun _ _ x => x)
  rw [hs v]
  show Seg M0 Ar Re Yy nn z₀ co (.at itr.pos fun _ => (holding [v] (pyIter v) >>= fun it => runOwn (.forLoop tgt it bd [] en) en).wrap Kk Hh gg ll) fr z1
  refine seg_at ?_
  rw [Sem.bind_eq_wrap', Sem.wrap_wrap]
  refine seg_wrap (wpAny_holding (wpAny_mono h1 (fun it z2 h2 => ?_) fun _ _ x => x))
  exact seg_call h2
end
section
variable {P : Program} {w : World} {Ar : Around} {Re : GenEnd} {Yy : Protocol} {nn : Nat} {z₀ z : Shared} {fr : List Frame} {en : Env}
/-- what an exception does in a loop's code -/
abbrev away (en : Env) (x : Value) : Sem PySem.Fin := (do noteFrame x en; theTreesLotGoes x : Sem Unit).wrap (fun _ => .raise x) .raise id id
theorem sg_turn {tgt : Expr} {it : Value} {bd : List Stmt}
    (h : wpAny (model P w) (Ar.over (.forLoop tgt it bd [] en) fr) (pyNext it) (fun r z1 => match r with
        | none => Seg (model P w) Ar Re Yy nn z₀ (.forLoop tgt it bd [] en) (.pure (.again (.block [] en))) fr z1
        | some v => wpAny (model P w) (Ar.over (.forLoop tgt it bd [] en) fr) (letOwnedTupleGo tgt it v) (fun _ z2 => wpAny (model P w) (Ar.over (.forLoop tgt it bd [] en) fr) (assign tgt en v) (fun _ z3 =>
            Seg (model P w) Ar Re Yy nn z₀ (.forLoop tgt it bd [] en) ((execs bd en).wrap (fun f => match f with
              | .next | .cont => .pure (.again (.forLoop tgt it bd [] en))
              | .brk => .pure (.done .next)
              | .ret u => .pure (.done (.ret u))) (away en) id id) fr z3)
            (fun x z3 => Seg (model P w) Ar Re Yy nn z₀ (.forLoop tgt it bd [] en) (away en x) fr z3) z2) (fun x z2 => Seg (model P w) Ar Re Yy nn z₀ (.forLoop tgt it bd [] en) (away en x) fr z2) z1)
      (fun x z1 => Seg (model P w) Ar Re Yy nn z₀ (.forLoop tgt it bd [] en) (away en x) fr z1) z) :
    Seg (model P w) Ar Re Yy nn z₀ (.forLoop tgt it bd [] en) ((model P w).den (.forLoop tgt it bd [] en)) fr z := by
  show Seg _ Ar Re Yy nn z₀ _ ((forTurn tgt it bd [] en).onRaise (fun x => do noteFrame x en; theTreesLotGoes x)) fr z
  have hx : ∀ (e : Value), ((do noteFrame e en; theTreesLotGoes e : Sem Unit).bind fun _ => (.raise e : Sem PySem.Fin)) = away en e := fun e => by
    rw [Sem.bind_eq_wrap]
  have same : ∀ (t t' : Sem PySem.Fin) (z' : Shared), t = t' → Seg (model P w) Ar Re Yy nn z₀ (.forLoop tgt it bd [] en) t' fr z' → Seg (model P w) Ar Re Yy nn z₀ (.forLoop tgt it bd [] en) t fr z' := fun t t' z' e h => by
    rw [e]
    exact h
  unfold forTurn
  rw [Sem.onRaise_eq_wrap, Sem.bind_eq_wrap', Sem.wrap_wrap]
  refine seg_wrap (wpAny_standAt ?_)
  rw [Sem.bind_eq_wrap', Sem.wrap_wrap]
  refine seg_wrap (wpAny_onRaise (wpAny_mono h (fun r z1 h1 => ?_) fun x z1 h1 => wpAny_standAt ?_))
  · cases r with
    | none => exact h1
    | some v =>
      show Seg _ Ar Re Yy nn z₀ _ (Sem.wrap _ _ _ _ (letOwnedTupleGo tgt it v >>= fun _ => (assign tgt en v >>= fun _ => (execs bd en >>= fun f => match f with
        | .next | .cont => again (.forLoop tgt it bd [] en)
        | .brk => pure (.done .next)
        | .ret u => pure (.done (.ret u)))))) fr z1
      rw [Sem.bind_eq_wrap', Sem.wrap_wrap]
      refine seg_wrap (wpAny_mono h1 (fun _ z2 h2 => ?_) fun x z2 h2 => ?_)
      · rw [Sem.bind_eq_wrap', Sem.wrap_wrap]
        refine seg_wrap (wpAny_mono h2 (fun _ z3 h3 => ?_) fun x z3 h3 => ?_)
        · rw [Sem.bind_eq_wrap', Sem.wrap_wrap]
          refine same _ _ _ ?_ h3
          refine Sem.wrap_congr (execs bd en) _ _ (fun f => ?_) fun e => ?_
          · cases f <;> rfl
          · exact hx e
        · refine same _ _ _ (hx x) ?_
          exact h3
      · refine same _ _ _ (hx x) ?_
        exact h2
  · refine same _ _ _ (hx x) ?_
    exact h1
theorem sg_block {en : Env} (h : Seg (model P w) Ar Re Yy nn z₀ (.block [] en) (.pure (.done .next)) fr z) : Seg (model P w) Ar Re Yy nn z₀ (.block [] en) ((model P w).den (.block [] en)) fr z := h
end
end L2N

set_option Elab.async false
set_option linter.all false
set_option maxRecDepth 100000
set_option maxHeartbeats 4000000
/-! A generator's if and for, read over data. -/
namespace L2N
open PySem PySem.Spec PyProof.Rows GenW L2
section
variable {X : Cx}
def tGIf (c : TT) (ta tb : TGn) : TGn := fun D ys σ H => c σ H fun b H1 => if b = true then ta D ys σ H1 else tb D ys σ H1
theorem gen_if {tst : Expr} {b1 b2 : List Stmt} {ps : Pos} {tc : TT} {ta tb : TGn} (hc : PT X tst tc) (h1 : GSs X b1 ta) (h2 : GSs X b2 tb) : GS X (.If tst b1 b2 ps) (tGIf tc ta tb) where
  run := fun Ar S ip Re nn ys z₀ co fr Kk Hh gg ll z σ H D g hn k hI ht => by
    refine sg_if ?_
    rw [g.over]
    obtain ⟨acc, cc, r, I⟩ := hI
    refine wpAny_mono (hc.run _ z σ H _ I ht) (fun b z1 hb => ?_) fun x z1 hx => k.exc nn z₀ x z1 hx
    obtain ⟨H2, I2, q2⟩ := hb
    cases b with
    | true => exact h1.run Ar S ip Re nn ys z₀ co fr Kk Hh gg ll z1 σ H2 D g hn k ⟨acc, cc, r, I2⟩ q2
    | false => exact h2.run Ar S ip Re nn ys z₀ co fr Kk Hh gg ll z1 σ H2 D g hn k ⟨acc, cc, r, I2⟩ q2
/-- W: the invariant of a turn, with a measure -/
def tGFor (wi : TI) (g : TG) (tb : TGn) : TGn := fun D ys σ H => wi σ H fun J H1 => ∃ W : Nat → Nat → List V → St → Hp → Prop, (∃ m, W 0 m ys σ H1) ∧ ∀ i m ys σ H, W i m ys σ H →
  (J.stop i H ∧ D.nx ys σ H) ∨ (J.go i H ∧ ∃ N : List V → St → Hp → Prop, (∀ ys' σ' H', N ys' σ' H' → ∃ m', m' < m ∧ W (i + 1) m' ys' σ' H') ∧ ∀ x H', J.yld i H x H' → g x σ H' fun σ2 H2 => tb { D with nx := N, ct := N, bk := D.nx } ys σ2 H2)
theorem gen_for {tgt itr : Expr} {bd : List Stmt} {ps : Pos} {wi : TI} {tg : TG} {tb : TGn} (hp : PassesOwn (model X.prog X.w) X.A X.env X.xe) (hc : X.calm = true) (hi : PI X tgt itr wi) (hg : PG X tgt tg) (hb : GSs X bd tb)
    (hs : ∀ x, foldedSetIterable itr X.env x = pure x) : GS X (.For tgt itr bd [] ps) (tGFor wi tg tb) where
  run := fun Ar S ip Re nn ys z₀ co fr Kk Hh gg ll z σ H D g hn k hI ht => by
    obtain ⟨acc0, cc0, r0, I0⟩ := hI
    refine sg_for hs ?_
    rw [g.over]
    refine wpAny_mono (hi.run _ z σ H _ I0 ht) (fun v z1 h1 => ?_) fun x z1 hx => k.exc nn z₀ x z1 hx
    refine wpAny_mono h1 (fun itv z2 h2 p => ?_) fun x z2 hx => k.exc nn z₀ x z2 hx
    obtain ⟨it, fp, tn, J, H2, e, I2, T, st2, f2, W, ⟨m0, w0⟩, turn⟩ := h2
    subst e
    have hfp : ∀ b ∈ fp, b ≠ S := fun b hb => ((f2 b hb).2.2.2.2.2 (S, lstObj acc0 cc0) (List.mem_append_right _ List.mem_cons_self)).symm
    have stat : ∀ {a' : Array Value} {c' : Nat} {H' : Hp}, (∀ b ∈ fp, H' b = none) → ∀ b ∈ fp, FpOk X ((S, lstObj a' c') :: ip) H' b := fun hn b hb => ⟨hn b hb, (f2 b hb).2.1, (f2 b hb).2.2.1, (f2 b hb).2.2.2.1, (f2 b hb).2.2.2.2.1, fun q hq => by
      rcases List.mem_append.mp hq with hq | hq
      · exact (f2 b hb).2.2.2.2.2 q (List.mem_append_left _ hq)
      · rcases List.mem_cons.mp hq with rfl | hq
        · exact (hfp b hb).symm
        · exact (f2 b hb).2.2.2.2.2 q (List.mem_append_right _ (List.mem_cons_of_mem _ hq))⟩
    have gl := fun (kk : Result → Sem PySem.Fin) => gc_loop (k := kk) (c' := .forLoop tgt (.ref it) bd [] X.env) (l := ll []) (kp := []) (p := p) g rfl rfl
    have gb := fun (kk : Result → Sem PySem.Fin) => gc_loop (k := kk) (c' := .block [] X.env) (l := ll []) (kp := []) (p := p) g rfl rfl
    have loop : ∀ (m i n : Nat) (ys : List V) (z₀ z : Shared) (σ : St) (H : Hp), n + ys.length = sizeLine → W i m ys σ H → GI X S ip ys σ H z → tn i z.heap → (∀ b ∈ fp, H b = none) →
        Seg (model X.prog X.w) Ar Re (GY X S) n z₀ (.forLoop tgt (.ref it) bd [] X.env) ((model X.prog X.w).den (.forLoop tgt (.ref it) bd [] X.env))
          (.ret (fun r => ((match r with | .ok f => (.pure f : Sem Flow) | .error e => .raise e).onRaise (cameBack X.env)).wrap Kk Hh gg ll) none (gg false) (ll []) co p [] :: fr) z := by
      intro m
      induction m using Nat.strongRecOn with
      | ind m ih =>
        intro i n ys z₀ z σ H hn w hI st fz
        have ee : ∀ (n : Nat) (z₀ : Shared) (x : Value) (z' : Shared), X.xe x z' → Seg (model X.prog X.w) Ar Re (GY X S) n z₀ (.forLoop tgt (.ref it) bd [] X.env) (away X.env x)
            (.ret (fun r => ((match r with | .ok f => (.pure f : Sem Flow) | .error e => .raise e).onRaise (cameBack X.env)).wrap Kk Hh gg ll) none (gg false) (ll []) co p [] :: fr) z' := fun n z₀ x z' hx => by
          refine seg_wrap ?_
          rw [(gl _).over]
          refine wpAny_bind (wpAny_mono (hp x z' hx) (fun _ z'' hcb => wpAny_theTreesLotGoes ?_) fun y z'' hcb => ?_)
          · exact seg_leaf (.error x) (seg_cameBack g k hcb)
          · exact seg_leaf (.error y) (seg_cameBack g k hcb)
        refine sg_turn ?_
        rw [(gl _).over]
        obtain ⟨acc, cc, r, I⟩ := hI
        rcases turn i m ys σ H w with ⟨stop, qn⟩ | ⟨go, N, hN, step⟩
        · refine wpAny_mono (T.done X rfl rfl rfl hc i _ z σ H X.xe I (stat fz) st stop) (fun r z1 h1 => ?_) fun x z1 hx => ee n z₀ x z1 hx
          obtain ⟨rfl, I1⟩ := h1
          refine seg_again rfl (sg_block ?_)
          exact seg_leaf (.ok .next) (k.ok n ys z₀ z1 .next hn ⟨σ, H, ⟨acc, cc, r, I1⟩, qn⟩)
        · refine wpAny_mono (T.item X rfl rfl rfl hc i _ z σ H X.xe I (stat fz) st go) (fun rr z1 h1 => ?_) fun x z1 hx => ee n z₀ x z1 hx
          obtain ⟨u, rfl, h1⟩ := h1
          refine wpAny_mono h1 (fun _ z5 h5 => ?_) fun x z5 hx => ee n z₀ x z5 hx
          obtain ⟨x, H5, I5, r5, y5, st5, fr5⟩ := h5
          have I5' := I5.pinned (stat fr5) (T.obj _ _ st5)
          refine wpAny_mono (hg.run _ z5 σ H5 x u _ I5' r5 (step x H5 y5)) (fun _ z6 h6 => ?_) fun x z6 hx => ee n z₀ x z6 hx
          obtain ⟨σ6, H6, I6, q6⟩ := h6
          have gi : GC X S (ip ++ pinsAt fp z5.heap) Ar (.forLoop tgt (.ref it) bd [] X.env) (.ret (fun r => ((match r with | .ok f => (.pure f : Sem Flow) | .error e => .raise e).onRaise (cameBack X.env)).wrap Kk Hh gg ll) none (gg false) (ll []) co p [] :: fr) id := { gl _ with
            ip := fun q hq => by
              rcases List.mem_append.mp hq with hq | hq
              · exact g.ip q hq
              · exact hfp _ (of_pinsAt hq).1 }
          refine hb.run Ar S (ip ++ pinsAt fp z5.heap) Re n ys z₀ _ _ _ _ id id z6 σ6 H6 { D with nx := N, ct := N, bk := D.nx } gi hn ⟨fun n' ys' z₀' z7 f hn' hs7 => ?_, fun n' z₀' x z7 hx => ee n' z₀' x z7 hx⟩ ⟨acc, cc, r, I6⟩ q6
          have un : ∀ {σ7 : St} {H7 : Hp}, GI X S (ip ++ pinsAt fp z5.heap) ys' σ7 H7 z7 → GI X S ip ys' σ7 H7 z7 ∧ tn (i + 1) z7.heap ∧ ∀ b ∈ fp, H7 b = none := fun {σ7 H7} h7 => by
            obtain ⟨a7, c7, r7, I7⟩ := h7
            have I7' : Inv X (((S, lstObj a7 c7) :: ip) ++ pinsAt fp z5.heap) σ7 H7 z7 := I7
            refine ⟨⟨a7, c7, r7, I7'.unpinned⟩, T.keep _ _ _ st5 fun b hb o e => (I7'.pin (b, o) (List.mem_append_right _ (List.mem_append_right _ (mem_pinsAt hb e)))).1, fun b hb => ?_⟩
            obtain ⟨o, e, d⟩ := T.obj _ _ st5 b hb
            exact (I7'.pin (b, o) (List.mem_append_right _ (List.mem_append_right _ (mem_pinsAt hb e)))).2.1
          cases f with
          | next =>
            obtain ⟨σ7, H7, I7, n7⟩ := hs7
            obtain ⟨u1, u2, u3⟩ := un I7
            obtain ⟨m', hm, w7⟩ := hN ys' σ7 H7 n7
            exact seg_again rfl (ih m' hm (i + 1) n' ys' z₀' z7 σ7 H7 hn' w7 u1 u2 u3)
          | cont =>
            obtain ⟨σ7, H7, I7, n7⟩ := hs7
            obtain ⟨u1, u2, u3⟩ := un I7
            obtain ⟨m', hm, w7⟩ := hN ys' σ7 H7 n7
            exact seg_again rfl (ih m' hm (i + 1) n' ys' z₀' z7 σ7 H7 hn' w7 u1 u2 u3)
          | brk =>
            obtain ⟨σ7, H7, I7, n7⟩ := hs7
            exact seg_leaf (.ok .next) (k.ok n' ys' z₀' z7 .next hn' ⟨σ7, H7, (un I7).1, n7⟩)
          | ret u =>
            obtain ⟨x7, σ7, H7, I7, r7, q7⟩ := hs7
            exact seg_leaf (.ok (.ret u)) (k.ok n' ys' z₀' z7 (.ret u) hn' ⟨x7, σ7, H7, (un I7).1, r7, q7⟩)
    exact loop m0 0 nn ys z₀ z2 σ H2 hn w0 ⟨acc0, cc0, r0, I2⟩ st2 fun b hb => (f2 b hb).1
end
end L2N

set_option Elab.async false
set_option linter.all false
set_option maxRecDepth 100000
set_option maxHeartbeats 4000000
/-! A generator def of the shape «for x in range(e): if c: yield v», over data: what list(..) of it comes to. -/
namespace Ip
open PySem L2
theorem GS_weak {X : Cx} {st : Stmt} {t t' : TGn} (h : GS X st t) (w : ∀ D ys σ H, t' D ys σ H → t D ys σ H) : GS X st t' := ⟨fun A S ip R n ys s₀ c fs Kk J gd lv s σ H D g hn k hI ht => h.run A S ip R n ys s₀ c fs Kk J gd lv s σ H D g hn k hI (w D ys σ H ht)⟩
theorem GSs_weak {X : Cx} {st : List Stmt} {t t' : TGn} (h : GSs X st t) (w : ∀ D ys σ H, t' D ys σ H → t D ys σ H) : GSs X st t' := ⟨fun A S ip R n ys s₀ c fs Kk J gd lv s σ H D g hn k hI ht => h.run A S ip R n ys s₀ c fs Kk J gd lv s σ H D g hn k hI (w D ys σ H ht)⟩
/-- what a generator of that shape hands out -/
def TGl (K : PySem.W.Frag) (cl : Cl) (p : Pa) (e : IE) : TGn := fun D ys σ H => ys = [] ∧ ∃ st B M F env out st', Rel K p st B M F env σ H ∧ ev cl e env st = some (.list out, st') ∧
  ∀ xs B' env' σ' H', Ex B B' → Rel K p st' B' M F env' σ' H' → RpA K B' xs out → D.nx xs σ' H'
theorem range_gen {lo : Int} {n : Nat} {g : TG} {tb : TGn} {D : GEnds} {ys : List V} {σ : L2.St} {H : Hp} (Pv : Nat → List V → L2.St → Hp → Prop) (h0 : Pv 0 ys σ H)
    (hs : ∀ i ys σ H, i < n → Pv i ys σ H → g (.int (lo + i)) σ H fun σ2 H2 => tb { D with nx := Pv (i + 1), ct := Pv (i + 1), bk := D.nx } ys σ2 H2) (hd : ∀ ys σ H, Pv n ys σ H → D.nx ys σ H) :
    ∃ W : Nat → Nat → List V → L2.St → Hp → Prop, (∃ m, W 0 m ys σ H) ∧ ∀ i m ys σ H, W i m ys σ H →
      ((Itr lo n).stop i H ∧ D.nx ys σ H) ∨ ((Itr lo n).go i H ∧ ∃ N : List V → L2.St → Hp → Prop, (∀ ys' σ' H', N ys' σ' H' → ∃ m', m' < m ∧ W (i + 1) m' ys' σ' H') ∧ ∀ x H', (Itr lo n).yld i H x H' → g x σ H' fun σ2 H2 => tb { D with nx := N, ct := N, bk := D.nx } ys σ2 H2) := by
  refine ⟨fun i m ys σ H => m = n - i ∧ i ≤ n ∧ Pv i ys σ H, ⟨n, by simp, Nat.zero_le _, h0⟩, ?_⟩
  rintro i m ys σ H ⟨rfl, hi, q⟩
  by_cases hlt : i < n
  · refine .inr ⟨hlt, Pv (i + 1), fun ys' σ' H' q' => ⟨n - (i + 1), by omega, rfl, hlt, q'⟩, fun x H' y => ?_⟩
    obtain ⟨e1, e2⟩ := y
    subst e1 e2
    exact hs i ys σ _ hlt q
  · obtain rfl : i = n := by omega
    exact .inl ⟨Nat.le_refl _, hd ys σ H q⟩
theorem lcF_cases {cl : Cl} {j : Nat} {ic iv : IE} {env : List Sl} {d : D} {st : Pl} {o : Option D} {st3 : Pl} (h : lcF cl j (.cons ic .nil) iv env d st = some (o, st3)) :
    (o = none ∧ ev cl ic (env.set j (.im d)) st = some (.bool false, st3)) ∨ ∃ y st2, o = some y ∧ ev cl ic (env.set j (.im d)) st = some (.bool true, st2) ∧ ev cl iv (env.set j (.im d)) st2 = some (y, st3) := by
  unfold lcF et at h
  split at h
  · rename_i st2 e9
    split at e9
    · rename_i st4 e8
      unfold et at e9
      cases e9
      split at h
      · rename_i y st5 e10
        cases h
        exact .inr ⟨y, st2, rfl, e8, e10⟩
      · cases h
    · cases e9
    · cases e9
  · rename_i st2 e9
    split at e9
    · unfold et at e9
      cases e9
    · rename_i st4 e8
      cases e9
      cases h
      exact .inl ⟨rfl, e8⟩
    · cases e9
  · cases h
theorem gl_for {Γ : Gam} {X : Cx} {p : Pa} {itr c v : Expr} {x : Str} {j : Nat} {ie ic iv : IE} {px p1 p2 p3 yp : Pos} (o : Oks Γ X p) (hh : Γ.hot = false) (hi : SI Γ itr (.rng1 ie)) (ht : SGt Γ (.Name x px) (.one j)) (hc : ST Γ c ic) (hv : SE Γ v iv)
    (hs : ∀ env y, foldedSetIterable itr env y = pure y) (hco : Γ.sc.isCoroutine = false) (hint : interactive X.env = false) :
    GSs X [.For (.Name x px) itr [.If c [.Expr (.Yield (some v) yp) p1] [] p2] [] p3] (TGl Γ.K Γ.cl p (.lc j (.rng1 ie) (.cons ic .nil) iv)) := by
  have hy := gs_yield (yp := yp) (pos := p1) (hv X p o.toOkx) (by rw [o.sc]; exact hco) hint
  refine GSs_weak (gss_cons (L2N.gen_for (ps := p3) o.own (o.calm hh) (hi X p _ o.toOkx) (ht X p o) (gss_cons (L2N.gen_if (ps := p2) (hc X p o.toOkx) (gss_cons hy gss_nil) gss_nil) gss_nil) (hs _)) gss_nil) fun D ys σ H q => ?_
  obtain ⟨rfl, st, B, M, F, env, out, st', r, he, k⟩ := q
  obtain ⟨dz, st1, ys, e1, hl, e2, e3⟩ := ev_lc he
  cases e3
  unfold ei at e1
  split at e1
  · rename_i n st2 e4
    obtain ⟨ys, e5, e6⟩ := Option.map_eq_some_iff.mp e1
    cases e6
    obtain ⟨⟨h1, h2, h3, h4⟩, hlen, hg⟩ := rng_get e5
    refine ⟨st, B, M, F, env, [.int n], _, r, by unfold ea; rw [e4]; rfl, fun vs B1 H1 x1 r1 pv1 => ?_⟩
    match vs, pv1 with
    | [_], .cons (.int _) .nil =>
      refine ⟨n, rfl, h3, h4, ?_⟩
      have e0 : (n - 0).toNat = n.toNat := by rw [Int.sub_zero]
      rw [e0] at hlen hg
      refine range_gen (lo := 0) (n := n.toNat) (fun i ys σ H => ∃ B' sti envi zs rest, Ex B B' ∧ Rel Γ.K p sti B' M F envi σ H ∧ RpA Γ.K B' ys zs ∧ zs.length ≤ i ∧ lcG (lcF Γ.cl j (.cons ic .nil) iv env) (dz.drop i) sti = some (rest, st') ∧ zs ++ rest = out ∧ ∀ d, envi.set j (.im d) = env.set j (.im d))
        ⟨B1, st1, env, [], out, x1, r1, .nil, Nat.le_refl _, e2, rfl, fun _ => rfl⟩ (fun i ys σ' H' hin q => ?_) (fun ys σ' H' q => ?_)
      · obtain ⟨B', sti, envi, zs, rest, x2, r2, rz, hz, e7, e8, e9⟩ := q
        have hd := hg i hin
        have hdr : dz.drop i = .int (0 + (i : Int)) :: dz.drop (i + 1) := List.drop_eq_getElem_cons (List.getElem?_eq_some_iff.mp hd).1 |>.trans (by rw [(List.getElem?_eq_some_iff.mp hd).2])
        rw [hdr] at e7
        refine ⟨sti, B', M, F, envi, _, _, r2, .int _, rfl, fun σ2 r3 => ?_⟩
        rw [e9] at r3
        have e9' : ∀ d, (env.set j (.im (.int (0 + (i : Int))))).set j (.im d) = env.set j (.im d) := fun d => by rw [List.set_set]
        rcases lcG_cons e7 with ⟨st3, e10, e11⟩ | ⟨y, st3, zs', e10, e11, e12⟩
        · rcases lcF_cases e10 with ⟨_, e13⟩ | ⟨_, _, z, _⟩
          · refine ⟨sti, B', M, F, _, false, st3, r3, e13, fun B3 H3 x5 r4 => ?_⟩
            refine iteF ?_
            exact ⟨B3, st3, _, zs, rest, x2.trans x5, r4, rz.mono x5, by omega, e11, e8, e9'⟩
          · cases z
        · rcases lcF_cases e10 with ⟨z, _⟩ | ⟨y2, st4, z, e13, e14⟩
          · cases z
          · cases z
            refine ⟨sti, B', M, F, _, true, st4, r3, e13, fun B3 H3 x5 r4 => ?_⟩
            refine iteT ?_
            refine ⟨most_lt (by rw [rz.length]; omega), st4, B3, M, F, _, _, st3, r4, e14, fun w B4 H4 x6 r5 pw => ?_⟩
            exact ⟨B4, st3, _, zs ++ [y], zs', (x2.trans x5).trans x6, r5, (rz.mono (x5.trans x6)).append (.one pw), by rw [List.length_append]; show zs.length + 1 ≤ i + 1; omega, e11, by rw [List.append_assoc, ← e8, e12]; rfl, e9'⟩
      · obtain ⟨B', sti, envi, zs, rest, x2, r2, rz, hz, e7, e8, e9⟩ := q
        rw [← hlen, List.drop_length] at e7
        unfold lcG at e7
        cases e7
        rw [List.append_nil] at e8
        subst e8
        exact k ys B' _ _ _ x2 r2 rz
  · cases e1
end Ip

set_option Elab.async false
set_option linter.all false
set_option maxRecDepth 100000
set_option maxHeartbeats 4000000
/-! A generator def's promise; list(..) of a call of it. -/
namespace Ip
open PySem L2
section
variable {P : Program} {w : World} {K : PySem.W.Frag} {mg : Str → Option Value} {base : Heap}
theorem passL {Y : Cx} : Passes (L2.CX Y.prog Y.w) Y E0 := fun _ _ _ _ _ _ _ ⟨_, _, _, _, _, _, _, _, _, _, _, _, z⟩ => z.elim
theorem Av.oksG {N : List Str} {qual : Str} {scope : Scope} {f : Addr} {cdv : Value} {A : Around} {outer : List Env} {s : Shared} {H : Hp} {E : XK} {pn : List (Addr × Obj)} {k : Nat} {Γ : Gam} {p : Pa} (a : Av P w K mg base k Γ) (hh : Γ.hot = false) (hK : Γ.K = K) (hN : Γ.N = N) (nd : N.Nodup) (hsc : Γ.sc = scope) (hl : p.lk = noLk) (hio : p.io.map Prod.fst = Γ.io) (hfr : p.fr = Γ.fr) (htb : p.tb = tabK K) (hr : Room k (A.deeper (PyProof.Rows.envOfC qual scope s.heap.objs.size f cdv))) :
    Oks Γ (gcxOf P w K mg base N qual scope f cdv A outer s H E pn) p :=
  let q : Oks Γ (cxOf (L2N.CX P w) P w K mg base N qual scope f cdv A outer s H E) p := a.oks hh hK hN nd hsc hl hio hfr htb hr
  { K := q.K, N := q.N, nd := q.nd, sc := q.sc, calm := q.calm, hotc := fun z => by
      rw [hh] at z
      cases z
    units := q.units, fn := q.fn, fnh := q.fnh, bl := q.bl, xn := q.xn, er := fun z x hx => by
      obtain ⟨C, e⟩ := a.er z x hx
      exact ⟨C, e.at_ hr rfl rfl rfl rfl rfl⟩
    df := q.df, gn := q.gn, lk := q.lk, lkh := fun _ _ _ _ z => by
      rw [hl] at z
      exact z.elim
    ef := q.ef, tb := q.tb, kd := q.kd, lx := q.lx, lm := q.lm, own := owns_gcx, stk := rfl, frm := rfl, fnx := fun _ => rfl, io := q.io, fr := q.fr, fi := q.fi, ff := q.ff }
theorem gl_ok {xn qual : Str} {params : Arguments} {body : List Stmt} {scope : Scope} {f : Addr} {fd : FuncData} {N ps : List Str} {k : Nat} {Γ : Gam} {I : IF} {cl : Cl} {g : Str} {dvs : List V} {kws : List (Str × V)} {itr c v : Expr} {x : Str} {j : Nat} {ie ic iv : IE} {px p1 p2 p3 yp : Pos}
    (F : FunD K xn qual params body scope dvs kws f fd) (S : GScope N ps scope)
    (hh : Γ.hot = false) (hK : Γ.K = K) (hN : Γ.N = N) (hsc : Γ.sc = scope) (hb : body = [.For (.Name x px) itr [.If c [.Expr (.Yield (some v) yp) p1] [] p2] [] p3]) (hi : SI Γ itr (.rng1 ie)) (ht : SGt Γ (.Name x px) (.one j)) (hc : ST Γ c ic) (hv : SE Γ v iv)
    (hs : ∀ env y, foldedSetIterable itr env y = pure y) (hn : I.n = N.length) (hI : I.body = .cons (.ret (.lc j (.rng1 ie) (.cons ic .nil) iv)) .nil)
    (hcl : ∀ as st d st', cl g as st = some (d, st') → as.length = ps.length ∧ runF Γ.cl I as st = some (d, st')) (a : Av P w K mg base k Γ) (hio : Γ.io = none := by rfl) (hfr : Γ.fr = false := by rfl) : GFn P w K mg base (k + 1) f fd ps (spL K cl g) := by
  obtain ⟨oc, od, dV, kV, doc, pm, an, cdv, ct, osl, rfl, lk, hcd, _, _⟩ := F.ex
  subst hb
  refine gfn_of lk hcd S (fun vs H Q E h => ?_) (fun A outer s H vs Q E pn hr h => ?_)
  · obtain ⟨p, st, B, F, as, out, st', _, _, ha, he, _⟩ := h
    rw [ha.length, (hcl _ _ _ _ he).1]
  · obtain ⟨p, st, B, Fz, as, out, st', hl, w1, ha, he, kk⟩ := h
    have co : Γ.sc.isCoroutine = false := by rw [hsc]; exact S.co
    refine ⟨_, gl_for (p := p) (a.oksG hh hK hN S.nd hsc hl.lk (by rw [hl.io, hio]; rfl) (hl.fr.trans hfr.symm) hl.tb hr) hh hi ht hc hv hs co (by show interactive (PyProof.Rows.envOfC qual scope s.heap.objs.size f cdv) = false; unfold interactive; simp [PyProof.Rows.envOfC, S.kind]), ?_⟩
    have hr2 := (hcl _ _ _ _ he).2
    unfold runF at hr2
    rw [hI, hn] at hr2
    refine ⟨rfl, st, B, fun _ => none, Fz, as.map slOf ++ List.replicate (N.length - as.length) .no, out, st', by rw [hK]; exact rel_start w1 ha, ?_, fun xs B' env' σ' H' x r pv => kk xs B' H' x r.bs (by rw [← hK]; exact pv)⟩
    cases e3 : ev Γ.cl (.lc j (.rng1 ie) (.cons ic .nil) iv) (as.map slOf ++ List.replicate (N.length - as.length) .no) st with
    | none =>
      unfold evSs evS at hr2
      rw [e3] at hr2
      cases hr2
    | some r =>
      obtain ⟨d, st3⟩ := r
      unfold evSs evS at hr2
      rw [e3] at hr2
      cases hr2
      rfl
end
section
variable {Γ : Gam} {e : Expr} {es : List Expr} {ies : IEs} {pos p0 p1 q0 : Pos} {x : Str}
theorem listg_se (h : SG Γ (e :: es) ies) (hf : Γ.gn.contains x = true := by rfl) (hb : Γ.bs.contains "list" = true := by rfl) (hh : Γ.hot = false := by rfl) (hg : GlS Γ.sc x := by rfl) (hgl : GlS Γ.sc "list" := by rfl) (hdb : (x == ("__debug__" : Str)) = false := by decide)
    (he : ∀ env, starEach (e :: es) env = (false, eval e env) :: starEach es env := by intro _; rfl) (hpl : ∀ env, (backTo p1 (starEach es env)).any (·.1) = false := by intro _; rfl)
    (hl : ∀ env, starEach [.Call (.Name x p0) (e :: es) [] p1] env = (false, eval (.Call (.Name x p0) (e :: es) [] p1) env) :: starEach [] env := by intro _; rfl) :
    SE Γ (.Call (.Name "list" q0) [.Call (.Name x p0) (e :: es) [] p1] [] pos) (.call x ies) := fun X p o => by
  obtain ⟨fa, fd, ps, k, F, hm, hk, hbn, hr, hls⟩ := o.gn hh x (List.contains_iff_mem.mp hf)
  have ns : NoStop X.K E0 := fun _ _ _ z => z.elim
  refine PE_weak (pe_listG (pgen_call (E := E0) F (hr.mono (by omega)) (o.gl hg) hm hk hbn .nil (h X p o) hdb (he _) (hpl _)) passL ns hr (o.gl hgl) (o.bl _ (List.contains_iff_mem.mp hb)) (by decide +kernel) (by decide) (by decide) (hl _)) fun σ H Q q => ?_
  obtain ⟨st, B, M, Fz, env, d, st', r, he, kk⟩ := q
  unfold ev at he
  split at he
  · rename_i ys st1 e1
    obtain ⟨out, rfl⟩ := hls _ _ _ _ he
    refine ⟨st, B, M, Fz, env, ys, st1, r, e1, fun vs B1 H1 x1 r1 pa => ?_⟩
    show spL Γ.K Γ.cl x (vs ++ []) H1 _ E0
    rw [List.append_nil]
    refine ⟨p.o, st1, B1, uni M Fz, ys, out, st', ⟨rfl, rfl, rfl, o.tb⟩, r1.call.o, pa.o, he, fun xs B' H' x2 w pv q hq => ?_⟩
    have r2 := r1.back x2 w.u
    have f := r2.fr hq
    have r3 := (r2.put (o := .lst xs) f (.inl hq)).know upd_same f.b f.m f.f f.p
    have x3 : Ex B' (upd B' q (.lst xs)) := fun b u hb => by
      by_cases hbq : b = q
      · subst hbq
        rw [f.b] at hb
        cases hb
      · rw [upd_ne hbq]
        exact hb
    exact kk _ _ _ ((x1.trans x2).trans x3) r3 (.lst upd_same (pv.mono x3))
  · cases he
end
end Ip

set_option Elab.async false
set_option linter.all false
set_option maxRecDepth 100000
set_option maxHeartbeats 4000000
/-! tuple(sorted(x)), x an own list of texts. -/
namespace Ip
open PySem L2 PySem.Spec
theorem lc_nil (a : Nat) (r : List Nat) : ltCps [] (a :: r) = true := rfl
theorem lc_cons (a b : Nat) (r t : List Nat) : ltCps (a :: r) (b :: t) = (if a < b then true else if b < a then false else ltCps r t) := by
  show (decide (a < b) || (a == b && ltCps r t)) = _
  by_cases x : a < b
  · rw [if_pos x, decide_eq_true x]
    rfl
  · by_cases y : b < a
    · have e : (a == b) = false := by
        rw [beq_eq_false_iff_ne]
        omega
      rw [if_neg x, if_pos y, decide_eq_false x, e]
      rfl
    · have e : (a == b) = true := by
        rw [beq_iff_eq]
        omega
      rw [if_neg x, if_neg y, decide_eq_false x, e]
      simp
theorem lc_anti : ∀ {a b : List Nat}, ltCps a b = false → ltCps b a = false → a = b
  | [], [], _, _ => rfl
  | [], _ :: _, h, _ => by rw [lc_nil] at h; cases h
  | _ :: _, [], _, h => by rw [lc_nil] at h; cases h
  | a :: r, b :: t, h1, h2 => by
    rw [lc_cons] at h1 h2
    by_cases x : a < b
    · rw [if_pos x] at h1
      cases h1
    · by_cases y : b < a
      · rw [if_pos y] at h2
        cases h2
      · rw [if_neg x, if_neg y] at h1
        rw [if_neg y, if_neg x] at h2
        rw [show a = b by omega, lc_anti h1 h2]
theorem lc_trans : ∀ {a b c : List Nat}, ltCps b a = false → ltCps c b = false → ltCps c a = false
  | [], _, [], _, _ => rfl
  | [], _, _ :: _, _, _ => rfl
  | _ :: _, [], _, h1, _ => by rw [lc_nil] at h1; cases h1
  | _ :: _, _ :: _, [], _, h2 => by rw [lc_nil] at h2; cases h2
  | a :: r, b :: t, c :: u, h1, h2 => by
    rw [lc_cons] at h1 h2 ⊢
    by_cases x : b < a
    · rw [if_pos x] at h1
      cases h1
    by_cases y : c < b
    · rw [if_pos y] at h2
      cases h2
    rw [if_neg x] at h1
    rw [if_neg y] at h2
    by_cases z : c < a
    · omega
    rw [if_neg z]
    by_cases w : a < c
    · rw [if_pos w]
    · rw [if_neg w]
      have e1 : a = b := by omega
      have e2 : b = c := by omega
      rw [if_neg (by omega)] at h1 h2
      exact lc_trans h1 h2
theorem lc_total (a b : List Nat) : ltCps b a = false ∨ ltCps a b = false := by
  induction a generalizing b with
  | nil => cases b with
    | nil => exact .inl rfl
    | cons b t => exact .inl rfl
  | cons a r ih => cases b with
    | nil => exact .inr rfl
    | cons b t =>
      rw [lc_cons, lc_cons]
      by_cases x : b < a
      · exact .inr (by rw [if_neg (by omega : ¬ a < b), if_pos x])
      · by_cases y : a < b
        · exact .inl (by rw [if_neg x, if_pos y])
        · rw [if_neg x, if_neg y, if_neg y, if_neg x]
          exact ih t
/-- no later one is less -/
def leS (a b : Str) : Prop := ltCps b.cps.toList a.cps.toList = false
theorem rising_all : ∀ {l : List Str} {x : Str}, PyProof.Rows.risingS x l = true → (x :: l).Pairwise leS
  | [], x, _ => List.pairwise_singleton _ _
  | y :: l, x, h => by
    have h' : (!ltCps y.cps.toList x.cps.toList && PyProof.Rows.risingS y l) = true := h
    rw [Bool.and_eq_true_iff] at h'
    have ih := rising_all h'.2
    have hxy : leS x y := by
      unfold leS
      simpa using h'.1
    refine List.pairwise_cons.mpr ⟨fun z hz => ?_, ih⟩
    rcases List.mem_cons.mp hz with rfl | hz
    · exact hxy
    · exact lc_trans hxy (List.rel_of_pairwise_cons ih hz)
theorem sorted_all {l : List Str} (h : PyProof.Rows.sortedS l = true) : l.Pairwise leS := by
  cases l with
  | nil => exact .nil
  | cons x l => exact rising_all h
theorem sorted_one : ∀ {a b : List Str}, a.Perm b → a.Pairwise leS → b.Pairwise leS → a = b
  | [], b, h, _, _ => (List.Perm.nil_eq h)
  | a :: l, [], h, _, _ => by
    have := h.length_eq
    simp at this
  | a :: l, b :: m, h, ha, hb => by
    have e : a = b := by
      have h1 : b ∈ a :: l := h.mem_iff.mpr (List.mem_cons_self ..)
      have h2 : a ∈ b :: m := h.mem_iff.mp (List.mem_cons_self ..)
      rcases List.mem_cons.mp h1 with z | h1
      · exact z.symm
      · rcases List.mem_cons.mp h2 with z | h2
        · exact z
        · have l1 := List.rel_of_pairwise_cons ha h1
          have l2 := List.rel_of_pairwise_cons hb h2
          have q := lc_anti l2 l1
          obtain ⟨⟨x⟩⟩ := a
          obtain ⟨⟨y⟩⟩ := b
          have q' : x = y := q
          rw [q']
    subst e
    rw [sorted_one (List.Perm.cons_inv h) (List.pairwise_cons.mp ha).2 (List.pairwise_cons.mp hb).2]
theorem srt_sorted (ss : List Str) : (srtS ss).Pairwise leS := by
  have := List.pairwise_mergeSort (le := fun a b : Str => !ltCps b.cps.toList a.cps.toList) (fun a b c h1 h2 => by
    simp only [Bool.not_eq_true'] at h1 h2 ⊢
    exact lc_trans h1 h2) (fun a b => by
    rcases lc_total a.cps.toList b.cps.toList with h | h <;> simp [h]) ss
  refine this.imp fun h => ?_
  unfold leS
  simpa using h
theorem srt_perm (ss : List Str) : (srtS ss).Perm ss := List.mergeSort_perm ss _
theorem srt_is {ss ys : List Str} (h : ys.Perm ss) (hs : PyProof.Rows.sortedS ys = true) : ys = srtS ss := sorted_one (h.trans (srt_perm ss).symm) (sorted_all hs) (srt_sorted ss)
/-- texts among values -/
theorem strs_of {K : PySem.W.Frag} {B : Hp} : ∀ {ds : List D} {xs : List V} {ss : List Str}, strsD ds = some ss → RpA K B xs ds → xs = ss.map V.str
  | [], [], ss, h, .nil => by
    cases h
    rfl
  | .str s :: ds, _ :: xs, ss, h, .cons p r => by
    have h' : (strsD ds).map (fun ss => s :: ss) = some ss := h
    obtain ⟨zs, h1, rfl⟩ := Option.map_eq_some_iff.mp h'
    cases p
    rw [strs_of h1 r]
    rfl
theorem rpa_strs {K : PySem.W.Frag} {B : Hp} : ∀ ss : List Str, RpA K B (ss.map V.str) (ss.map PyData.str)
  | [] => .nil
  | s :: ss => .cons (.str s) (rpa_strs ss)
theorem tsr_se {Γ : Gam} (n : Nat) {y : Str} {p0 p1 p2 pos1 pos : Pos} (hN : Γ.N[n]? = some y := by rfl) (hv : Vis Γ.sc y := by first | exact Or.inl rfl | exact Or.inr (Or.inl rfl) | exact Or.inr (Or.inr rfl)) (hd : (y == ("__debug__" : Str)) = false := by decide) (hcd : (y == ("__classdict__" : Str)) = false := by decide)
    (hb : Γ.bs.contains "sorted" = true := by rfl) (hb2 : Γ.bs.contains "tuple" = true := by rfl) (hg : GlS Γ.sc "sorted" := by rfl) (hg2 : GlS Γ.sc "tuple" := by rfl) (hs : ∀ env, starEach [.Name y p0] env = (false, eval (.Name y p0) env) :: starEach [] env := by intro _; rfl)
    (hs2 : ∀ env, starEach [.Call (.Name "sorted" p1) [.Name y p0] [] pos1] env = (false, eval (.Call (.Name "sorted" p1) [.Name y p0] [] pos1) env) :: starEach [] env := by intro _; rfl) :
    SE Γ (.Call (.Name "tuple" p2) [.Call (.Name "sorted" p1) [.Name y p0] [] pos1] [] pos) (.tsr n) := fun X p o =>
  PE_weak (pe_callTy call_tuple_of (o.gl hg2) (o.bl _ (List.contains_iff_mem.mp hb2)) (by decide +kernel) (pa_cons (pe_callB cr_sortedS (o.gl hg) (o.bl _ (List.contains_iff_mem.mp hb)) (by decide +kernel) (pa_cons (pe_var (i := n) (by rw [o.N]; exact hN) (by rw [o.sc]; exact hv) hd hcd) pa_nil (hs _)) (by decide) (by decide) (hs _) rfl) pa_nil (hs2 _)) (by decide) (by decide) (hs2 _) rfl) fun σ H Q q => by
    obtain ⟨st, B, M, F, env, d, st', r, he, k⟩ := q
    unfold ev at he
    split at he
    · rename_i ds e1
      obtain ⟨z, e2, e3⟩ := Option.map_eq_some_iff.mp he
      cases e3
      unfold srtD at e2
      split at e2
      · rename_i ss e4
        obtain ⟨hl, rfl⟩ := ite_some e2
        obtain ⟨ov, h1, h2⟩ := r.en.at_ n _ e1
        cases ov with
        | none => exact h2.elim
        | some v =>
          cases v with
          | ref a =>
            obtain ⟨xs, h3, h4⟩ := h2
            have ex := strs_of e4 h4
            subst ex
            refine ⟨_, h1, a, ss, rfl, Or.inl (Or.inl (r.m _ _ h3)), hl, fun ys q1 hp hsr hq => ?_⟩
            rw [srt_is hp hsr]
            have f := r.fr hq
            have r2 := r.put (o := .lst ((srtS ss).map V.str)) f (.inl hq)
            refine ⟨q1, (srtS ss).map V.str, rfl, .inl ⟨Or.inl (Or.inl upd_same), fun l hl2 => ?_⟩⟩
            exact k (.ref l) _ _ (Ex.new (r2.bs.b.free hl2)) (r2.new hl2) (.tup (Or.inl (Or.inl upd_same)) (rpa_strs _))
          | _ => exact h2.elim
      · cases e2
    · cases he
end Ip

set_option Elab.async false
set_option linter.all false
set_option maxRecDepth 100000
set_option maxHeartbeats 4000000
/-! Own lists lent to a test; list(x); a generator def's step in the table. -/
namespace Ip
open PySem L2
/-- the own lists come back behind a test that looked at them -/
theorem Rel.giveBack {K : PySem.W.Frag} {p : Pa} {st st' : Pl} {B M F H B1 M1 B' H' : Hp} {env env1 : List Sl} {σ : L2.St} (r : Rel K p st B M F env σ H) (x1 : Ex B B1) (y1 : ∀ b u, M b = some u → M1 b = some u ∨ B1 b = some u) (x : Ex B1 B') (r' : Rel K p st' B' M1 F env1 σ H') :
    ∃ B2, Ex B B2 ∧ Rel K p st' B2 M F env σ H' ∧ ∀ b u, B2 b = some u → B' b = some u := by
  have x' : Ex B (fun b => match M b with | some _ => none | none => B' b) := fun b u hb => by
    have hm : M b = none := by
      cases hm : M b with
      | none => rfl
      | some w =>
        rw [(r.md b w hm).1] at hb
        cases hb
    show (match M b with | some _ => none | none => B' b) = _
    rw [hm]
    exact x b u (x1 b u hb)
  have le : ∀ b u, (match M b with | some _ => none | none => B' b) = some u → B' b = some u := fun b u hb => by
    cases hm : M b with
    | none =>
      rw [hm] at hb
      exact hb
    | some w =>
      rw [hm] at hb
      cases hb
  refine ⟨_, x', ⟨⟨fun b u hb => r'.bs.b b u (le b u hb), r'.bs.f, fun b u hb => ?_, r'.bs.pf, ?_, ⟨r'.bs.pl.1, ?_⟩, r'.bs.ce.up (fun k c hk => ⟨by rw [r.mc k c hk]; exact (r'.bs.ce.b k c hk).1, (r'.bs.ce.b k c hk).2.1⟩) (fun _ _ _ => rfl) (fun q hq => ⟨by rw [r.mt q hq]; exact (r'.bs.ce.tn q hq).1, (r'.bs.ce.tn q hq).2⟩) fun z => z⟩, fun b u hb => ?_, fun b u hb => ⟨?_, (r.md b u hb).2⟩, r.mc, r.mt, r.en.mono x'⟩, le⟩
  · show (match M b with | some _ => none | none => B' b) = none
    have := r'.bs.d b u hb
    cases M b with
    | none => exact this
    | some w => rfl
  · show (match M p with | some _ => none | none => B' p) = none
    have := r'.bs.pb
    cases M p with
    | none => exact this
    | some w => rfl
  · have hq : M p.q = none := by
      cases hm : M p.q with
      | none => rfl
      | some w =>
        have h1 := r.bs.pl.2
        rw [(r.md _ w hm).1] at h1
        cases h1
    show (match M p.q with | some _ => none | none => B' p.q) = _
    rw [hq]
    exact r'.bs.pl.2
  · rcases y1 b u hb with h1 | h1
    · exact r'.m b u h1
    · exact r'.bs.b b u (x b u h1)
  · show (match M b with | some _ => none | none => B' b) = none
    rw [hb]
theorem st_lent {Γ : Gam} {e : Expr} {i : IE} (is : List Nat) (h : ST Γ e i) : ST Γ e (.lent is i) := fun X p o => PT_weak (h X p o) fun σ H Q q => by
  obtain ⟨st, B, M, F, env, b, st', r, he, kk⟩ := q
  obtain ⟨B1, M1, x1, y1, r1⟩ := r.freezeAll is
  unfold ev at he
  split at he
  · rename_i y st1 e1
    split at he
    · cases he
      refine ⟨st, B1, M1, F, _, b, st', r1, e1, fun B' H' x r' => ?_⟩
      obtain ⟨B2, x2, r2, _⟩ := r.giveBack x1 y1 x r'
      exact kk B2 H' x2 r2
    · cases he
  · cases he
theorem list_se {Γ : Gam} {e : Expr} {i : IE} {p0 pos : Pos} (h : SE Γ e i) (hb : Γ.bs.contains "list" = true := by rfl) (hg : GlS Γ.sc "list" := by rfl) (hs : ∀ env, starEach [e] env = (false, eval e env) :: starEach [] env := by intro _; rfl) :
    SE Γ (.Call (.Name "list" p0) [e] [] pos) (.bi .list (.cons i .nil)) := fun X p o =>
  PE_weak (pe_callTy call_list_of (o.gl hg) (o.bl _ (List.contains_iff_mem.mp hb)) (by decide +kernel) ((sa_cons h sa_nil hs) X p o) (by decide) (by decide) (hs _) rfl) fun σ H Q q => by
    refine tx_bi ?_ q
    intro st B M F env v d z H r pv e2 Q k
    rw [o.K]
    cases pv with
    | @lst a xs ds hx rx =>
      cases e2
      exact ⟨a, xs, rfl, .inl (Or.inl (Or.inl (r.bs.b _ _ hx))), fun l hl => k (.ref l) _ _ (Ex.new (r.bs.b.free hl)) (r.new hl) (.lst upd_same (rx.mono (Ex.new (r.bs.b.free hl))))⟩
    | @tup a xs ds hx rx =>
      cases e2
      exact ⟨a, xs, rfl, .inr (sqt_mono r.bs.b hx), fun l hl => k (.ref l) _ _ (Ex.new (r.bs.b.free hl)) (r.new hl) (.lst upd_same (rx.mono (Ex.new (r.bs.b.free hl))))⟩
    | _ => cases e2
section
variable {P : Program} {w : World} {K : PySem.W.Frag} {mg : Str → Option Value} {base : Heap}
theorem Fo.up {j k : Nat} {cl : Cl} {f : Str} (h : Fo P w K mg base j cl f) (l : j ≤ k) : Fo P w K mg base k cl f := by
  obtain ⟨fa, fd, ps, F, q⟩ := h
  exact ⟨fa, fd, ps, F.mono l, q⟩
theorem fol_zero {k : Nat} {f : Str} {st : Stmt} {ps : List Str} (h : Hv K mg f st ps) : FoL P w K mg base (k + 3) noCl f := by
  obtain ⟨fa, fd, dvs, F, hm, hb⟩ := h
  have no : ∀ vs H Q E, ¬ spL K noCl f vs H Q E := fun vs H Q E q => by
    obtain ⟨_, _, _, _, _, _, _, _, _, _, e, _⟩ := q
    cases e
  exact ⟨fa, fd, ps, k, Nat.le_refl _, ⟨fun vs H Q E q => (no _ _ _ _ q).elim, fun A outer s H args us vs Q E _ _ _ _ q => (no _ _ _ _ q).elim⟩, hm, F.kp, hb, fun _ _ _ _ e => by cases e⟩
theorem fol_step {k : Nat} {f : Str} {st : Stmt} {N ps : List Str} {Γ : Gam} {I : IF} {cl : Cl} {itr c v : Expr} {x : Str} {j : Nat} {ie ic iv : IE} {px p1 p2 p3 yp : Pos} (h : Hv K mg f st ps) (S : GScope N ps (defScope st)) (hh : Γ.hot = false) (hK : Γ.K = K) (hN : Γ.N = N) (hsc : Γ.sc = defScope st)
    (hb : defBody st = [.For (.Name x px) itr [.If c [.Expr (.Yield (some v) yp) p1] [] p2] [] p3]) (hI : I.body = .cons (.ret (.lc j (.rng1 ie) (.cons ic .nil) iv)) .nil) (hi : SI Γ itr (.rng1 ie)) (ht : SGt Γ (.Name x px) (.one j)) (hc : ST Γ c ic) (hv : SE Γ v iv)
    (hs : ∀ env y, foldedSetIterable itr env y = pure y) (hn : I.n = N.length) (hcl : ∀ as s, cl f as s = runI ps.length Γ.cl I as s) (a : Av P w K mg base k Γ) (hio : Γ.io = none := by rfl) (hfr : Γ.fr = false := by rfl) : FoL P w K mg base (k + 4) cl f := by
  obtain ⟨fa, fd, dvs, F, hm, hbn⟩ := h
  have hcl' : ∀ as s d s', cl f as s = some (d, s') → as.length = ps.length ∧ runF Γ.cl I as s = some (d, s') := fun as s d s' e => by
    rw [hcl] at e
    exact runI_of e
  refine ⟨fa, fd, ps, k + 1, Nat.le_refl _, gl_ok F S hh hK hN hsc hb hi ht hc hv hs hn hI hcl' a hio hfr, hm, F.kp, hbn, fun as s d s' e => ?_⟩
  have hr := (hcl' _ _ _ _ e).2
  unfold runF at hr
  rw [hI] at hr
  cases e3 : ev Γ.cl (.lc j (.rng1 ie) (.cons ic .nil) iv) (as.map slOf ++ List.replicate (I.n - as.length) .no) s with
  | none =>
    unfold evSs evS at hr
    rw [e3] at hr
    cases hr
  | some r =>
    obtain ⟨d2, st3⟩ := r
    obtain ⟨_, _, ys, _, _, _, e4⟩ := ev_lc e3
    unfold evSs evS at hr
    rw [e3] at hr
    cases hr
    exact ⟨ys, e4⟩
end
end Ip

set_option Elab.async false
set_option linter.all false
set_option maxRecDepth 100000
set_option maxHeartbeats 4000000
/-! max, min, sorted over data; truth of lists; comprehensions with two names; lists lent to a new list's making. -/
namespace Ip
open PySem PySem.Spec PyProof.Rows L2
/-! ### max, min -/
theorem readsInts {h : Heap} : ∀ {ns : List Int} {its : List Value}, Vals (ns.map V.int) its → ∃ as, ReadsAll h its (ns.map PyData.int) as
  | [], _, .nil => ⟨[], .nil⟩
  | n :: ns, _, .cons r t => by
    obtain ⟨k, rfl⟩ := r
    obtain ⟨as, h1⟩ := readsInts (h := h) t
    exact ⟨[] ++ as, .cons (.int _ _) h1⟩
theorem alikeInts (ns : List Int) : PySem.W.AlikeAll (ns.map PyData.int) := by
  refine ⟨fun x hx y hy => ?_, fun x hx => ?_⟩
  · obtain ⟨a, _, rfl⟩ := List.mem_map.mp hx
    obtain ⟨b, _, rfl⟩ := List.mem_map.mp hy
    simp [PySem.W.alike]
  · obtain ⟨a, _, rfl⟩ := List.mem_map.mp hx
    intro e
    cases e
def rMaxDf (K : PySem.W.Frag) : List V → List V → Hp → VK → Prop := fun vs zs H Q => ∃ (a : Addr) (ns : List Int) (d m : Int), vs = [.ref a] ∧ zs = [.int d] ∧ SqL K H a (ns.map V.int) ∧ maxI ns (some d) = some m ∧ Q (.int m) H
theorem cr_maxDf {X : Cx} (hc : X.calm = true) (hu : X.A.units + 100 < cLine) : CallRK X (.builtin "max") [Str.ofString "default"] (rMaxDf X.K) := by
  intro pins s σ H vs zs us ws Q I r rz h
  obtain ⟨a, ns, d, m, rfl, rfl, hs, hm, q⟩ := h
  obtain ⟨its, rv, hl, hz⟩ := I.list hs
  rw [Vals.ref1 r]
  obtain ⟨w1, rfl, t, rfl⟩ := vals1 rz
  obtain ⟨as, ra⟩ := readsInts (h := s.heap) rv
  refine PySem.W.max_list_default (xs := ns.map .int) (as := as) (I.ok.hd hc) hl.isList (by simpa using ra) (alikeInts ns) (by rw [PySem.W.depth_ints]; omega) (fun e h' tk hk => ?_) (fun y ys i v h' tk bs e hv hr hk => ?_)
  · have e0 : ns = [] := by simpa using e
    subst e0
    cases hm
    exact ⟨.int _, H, I.kept hk, ⟨_, rfl⟩, q⟩
  · cases ns with
    | nil => cases e
    | cons n ns =>
      cases e
      rw [PySem.W.maxD_ints] at hr
      cases hm
      cases hr
      exact ⟨.int _, H, I.kept hk, ⟨_, rfl⟩, q⟩
theorem maxI_mem {n : Int} {ns : List Int} {m : Int} (h1 : m ∈ n :: ns) (h2 : ∀ y, y ∈ n :: ns → y ≤ m) : ns.foldl max n = m := by
  have ge : ∀ (ns : List Int) (n : Int), n ≤ ns.foldl max n ∧ (∀ y ∈ ns, y ≤ ns.foldl max n) ∧ (ns.foldl max n = n ∨ ns.foldl max n ∈ ns) := by
    intro ns
    induction ns with
    | nil => intro n; exact ⟨Int.le_refl _, by simp, .inl rfl⟩
    | cons a ns ih =>
      intro n
      obtain ⟨i1, i2, i3⟩ := ih (max n a)
      show n ≤ ns.foldl max (max n a) ∧ (∀ y ∈ a :: ns, y ≤ ns.foldl max (max n a)) ∧ (ns.foldl max (max n a) = n ∨ ns.foldl max (max n a) ∈ a :: ns)
      refine ⟨by omega, fun y hy => ?_, ?_⟩
      · rcases List.mem_cons.mp hy with e | hy
        · rw [e]; omega
        · exact i2 y hy
      · rcases i3 with e | e
        · rw [e]
          rcases Int.le_total n a with c | c
          · right
            rw [Int.max_eq_right c]
            exact List.mem_cons_self
          · left
            exact Int.max_eq_left c
        · exact .inr (List.mem_cons_of_mem _ e)
  obtain ⟨g1, g2, g3⟩ := ge ns n
  have le : ns.foldl max n ≤ m := by
    rcases g3 with e | e
    · rw [e]; exact h2 n List.mem_cons_self
    · exact h2 _ (List.mem_cons_of_mem _ e)
  have ge2 : m ≤ ns.foldl max n := by
    rcases List.mem_cons.mp h1 with e | e
    · rw [e]; exact g1
    · exact g2 m e
  omega
theorem ints_of {K : PySem.W.Frag} {B : Hp} : ∀ {ds : List D} {xs : List V} {ns : List Int}, intsD ds = some ns → RpA K B xs ds → xs = ns.map V.int
  | [], [], _, h, .nil => by
    cases h
    rfl
  | .int n :: ds, _ :: xs, _, h, .cons p r => by
    have h' : (intsD ds).map (fun ns => n :: ns) = some _ := h
    obtain ⟨zs, h1, rfl⟩ := Option.map_eq_some_iff.mp h'
    cases p
    rw [ints_of h1 r]
    rfl
section
variable {Γ : Gam} {e a b c : Expr} {ia ib ic i : IE} {pos p0 p1 : Pos}
theorem mx2_se (ha : SE Γ a ia) (hc : SE Γ b ib) (hh : Γ.hot = false := by rfl) (hb : Γ.bs.contains "max" = true := by rfl) (hg : GlS Γ.sc "max" := by rfl) (hs : ∀ env, starEach [a, b] env = (false, eval a env) :: starEach [b] env := by intro _; rfl) (hs2 : ∀ env, starEach [b] env = (false, eval b env) :: starEach [] env := by intro _; rfl)
    (hpl : ∀ env, (backTo pos (starEach [b] env)).any (·.1) = false := by intro _; rfl) : SE Γ (.Call (.Name "max" p0) [a, b] [] pos) (.mx2 ia ib) := fun X p o =>
  PE_weak (pe_callB (call_max2 (o.calm hh)) (o.gl hg) (o.bl _ (List.contains_iff_mem.mp hb)) (by decide +kernel) ((sa_cons ha (sa_cons hc sa_nil hs2) hs) X p o) (by decide) (by decide) (hs _) (hpl _)) fun σ H Q q => by
    obtain ⟨st, B, M, F, env, d, st', r, he, k⟩ := q
    unfold ev at he
    split at he
    · rename_i x st1 e1
      split at he
      · rename_i y st2 e2
        cases he
        refine ⟨st, B, M, F, env, [.int x, .int y], _, r, by unfold ea; rw [e1]; unfold ea; simp only [e2]; rfl, fun vs B1 H1 x1 r1 pv => ?_⟩
        match vs, pv with
        | [_, _], .cons (.int _) (.cons (.int _) .nil) => exact ⟨x, y, rfl, k _ B1 H1 x1 r1 (.int _)⟩
      · cases he
    · cases he
theorem mn2_se (ha : SE Γ a ia) (hc : SE Γ b ib) (hh : Γ.hot = false := by rfl) (hb : Γ.bs.contains "min" = true := by rfl) (hg : GlS Γ.sc "min" := by rfl) (hs : ∀ env, starEach [a, b] env = (false, eval a env) :: starEach [b] env := by intro _; rfl) (hs2 : ∀ env, starEach [b] env = (false, eval b env) :: starEach [] env := by intro _; rfl)
    (hpl : ∀ env, (backTo pos (starEach [b] env)).any (·.1) = false := by intro _; rfl) : SE Γ (.Call (.Name "min" p0) [a, b] [] pos) (.mn2 ia ib) := fun X p o =>
  PE_weak (pe_callB (call_min2 (o.calm hh)) (o.gl hg) (o.bl _ (List.contains_iff_mem.mp hb)) (by decide +kernel) ((sa_cons ha (sa_cons hc sa_nil hs2) hs) X p o) (by decide) (by decide) (hs _) (hpl _)) fun σ H Q q => by
    obtain ⟨st, B, M, F, env, d, st', r, he, k⟩ := q
    unfold ev at he
    split at he
    · rename_i x st1 e1
      split at he
      · rename_i y st2 e2
        cases he
        refine ⟨st, B, M, F, env, [.int x, .int y], _, r, by unfold ea; rw [e1]; unfold ea; simp only [e2]; rfl, fun vs B1 H1 x1 r1 pv => ?_⟩
        match vs, pv with
        | [_, _], .cons (.int _) (.cons (.int _) .nil) => exact ⟨x, y, rfl, k _ B1 H1 x1 r1 (.int _)⟩
      · cases he
    · cases he
theorem mxl_se (ha : SE Γ a ia) (hh : Γ.hot = false := by rfl) (hb : Γ.bs.contains "max" = true := by rfl) (hg : GlS Γ.sc "max" := by rfl) (hs : ∀ env, starEach [a] env = (false, eval a env) :: starEach [] env := by intro _; rfl) : SE Γ (.Call (.Name "max" p0) [a] [] pos) (.mxl ia none) := fun X p o =>
  PE_weak (pe_callB (cr_max (o.calm hh)) (o.gl hg) (o.bl _ (List.contains_iff_mem.mp hb)) (by decide +kernel) ((sa_cons ha sa_nil hs) X p o) (by decide) (by decide) (hs _) rfl) fun σ H Q q => by
    obtain ⟨st, B, M, F, env, d, st', r, he, k⟩ := q
    unfold ev at he
    split at he
    · rename_i xs st1 e1
      split at he
      · rename_i ns e2
        obtain ⟨m, e3, e4⟩ := Option.map_eq_some_iff.mp he
        cases e4
        refine ⟨st, B, M, F, env, [.list xs], _, r, by unfold ea; rw [e1]; rfl, fun vs B1 H1 x1 r1 pv => ?_⟩
        match vs, pv with
        | [_], .cons (@Rp.lst _ _ l zs _ hx rx) .nil =>
          have ez := ints_of e2 rx
          subst ez
          cases ns with
          | nil => cases e3
          | cons n ns =>
            cases e3
            refine ⟨l, n :: ns, rfl, by rw [o.K]; exact Or.inl (Or.inl (r1.bs.b _ _ hx)), by simp, fun m h1 h2 => ?_⟩
            have em := maxI_mem h1 h2
            rw [← em]
            exact k _ B1 H1 x1 r1 (.int _)
      · cases he
    · cases he
theorem mxd_se {n : Int} {ed : Expr} {kp : Pos} (ha : SE Γ a ia) (hd : ∀ X p, Okx Γ X p → PE X ed (tC (.int n))) (hh : Γ.hot = false := by rfl) (hb : Γ.bs.contains "max" = true := by rfl) (hg : GlS Γ.sc "max" := by rfl) (hs : ∀ env, starEach [a] env = (false, eval a env) :: starEach [] env := by intro _; rfl)
    (he0 : ∀ env, backTo pos (starEach [a] env) = (false, eval a env) :: backTo pos (starEach [] env) := by intro _; rfl) (hpl : ∀ env, (backTo pos (starEach [a] env)).any (·.1) = false := by intro _; rfl)
    (hall : ∀ env, (backToKw pos (keywordEach [⟨some "default", ed, kp⟩] env)).all (·.1.isSome) = true := by intro _; rfl) (hno : ∀ env, (backToKw pos (keywordEach [⟨some "default", ed, kp⟩] env)).any (·.1.isNone) = false := by intro _; rfl)
    (hks : ∀ env, (backToKw pos (keywordEach [⟨some "default", ed, kp⟩] env)).filterMap (·.1) = [Str.ofString "default"] := by intro _; rfl) : SE Γ (.Call (.Name "max" p0) [a] [⟨some "default", ed, kp⟩] pos) (.mxl ia (some n)) := fun X p o =>
  PE_weak (pe_callBK (cr_maxDf (o.calm hh) o.units) (o.gl hg) (o.bl _ (List.contains_iff_mem.mp hb)) (by decide +kernel) ((sa_cons ha sa_nil hs) X p o) (pk_cons (hd X p o) pk_nil) (by decide) (by decide) (he0 _) (hpl _) (hall _) (hno _) (hks _)) fun σ H Q q => by
    obtain ⟨st, B, M, F, env, d, st', r, he, k⟩ := q
    unfold ev at he
    split at he
    · rename_i xs st1 e1
      split at he
      · rename_i ns e2
        obtain ⟨m, e3, e4⟩ := Option.map_eq_some_iff.mp he
        cases e4
        refine ⟨st, B, M, F, env, [.list xs], _, r, by unfold ea; rw [e1]; rfl, fun vs B1 H1 x1 r1 pv => ?_⟩
        match vs, pv with
        | [_], .cons (@Rp.lst _ _ l zs _ hx rx) .nil =>
          have ez := ints_of e2 rx
          subst ez
          exact ⟨l, ns, n, m, rfl, rfl, by rw [o.K]; exact Or.inl (Or.inl (r1.bs.b _ _ hx)), e3, k _ B1 H1 x1 r1 (.int _)⟩
      · cases he
    · cases he
end
end Ip

set_option Elab.async false
set_option linter.all false
set_option maxRecDepth 100000
set_option maxHeartbeats 4000000
namespace Ip
open PySem PySem.Spec PyProof.Rows L2
/-! ### sorted over data -/
theorem each_two {X : Cx} {pins : List (Addr × Obj)} {σ : L2.St} {H : Hp} {s : Shared} (I : Inv X pins σ H s) : ∀ {ds : List D} {xs : List V} {its : List Value}, DpAll X.K H xs ds → Vals xs its →
    PySem.W.EachIs (fun v (b : V × D) => RelV b.1 v) its (xs.zip ds) ∧ PySem.W.EachIs (fun v (b : V × D) => ∃ as, Reads s.heap v b.2 as) its (xs.zip ds)
  | [], _, _, .nil, .nil => ⟨.nil, .nil⟩
  | d :: ds, _, _, .cons h t, .cons r rr => by
    obtain ⟨i1, i2⟩ := each_two I t rr
    exact ⟨.cons r i1, .cons (Dp.reads I d _ _ h r) i2⟩
theorem each_vals : ∀ {out : List Value} {l : List (V × D)}, PySem.W.EachIs (fun v (b : V × D) => RelV b.1 v) out l → Vals (l.map Prod.fst) out
  | _, _, .nil => .nil
  | _, _, .cons r t => .cons r (each_vals t)
theorem dpa_len {K : PySem.W.Frag} {H : Hp} : ∀ {ds : List D} {xs : List V}, DpAll K H xs ds → xs.length = ds.length
  | _, _, .nil => rfl
  | _, _, .cons _ t => congrArg Nat.succ (dpa_len t)
theorem sortOk_of {ds : List D} (h : sortOk ds = true) : PySem.W.AllAlike ds ∧ PySem.W.Sortable ds ∧ ds.length ≤ most ∧ ∀ d ∈ ds, d.depth ≤ 50 := by
  unfold sortOk at h
  simp only [Bool.and_eq_true, Bool.or_eq_true, List.all_eq_true, decide_eq_true_eq] at h
  obtain ⟨⟨⟨h1, h2⟩, h3⟩, h4⟩ := h
  refine ⟨h1, ?_, h3, h4⟩
  rcases h2 with h2 | h2
  · left
    intro d hd
    have q := h2 d hd
    cases d with
    | tuple xs =>
      cases xs with
      | nil => cases q
      | cons x r => exact ⟨x, r, rfl⟩
    | _ => cases q
  · right
    intro d hd
    have q := h2 d hd
    cases d with
    | none => cases q
    | tuple xs => cases q
    | _ => exact ⟨(fun e => nomatch e), (fun xs e => nomatch e)⟩
def rSrt (K : PySem.W.Frag) : List V → Hp → VK → Prop := fun vs H Q => ∃ (a : Addr) (xs : List V) (ds : List D), vs = [.ref a] ∧ SqL K H a xs ∧ DpAll K H xs ds ∧ sortOk ds = true ∧
  ∀ (l : List (V × D)) (q : Addr), l.Perm (xs.zip ds) → l.map Prod.snd = srtA ds → H q = none → Q (.ref q) (upd H q (.lst (l.map Prod.fst)))
theorem cr_srt {X : Cx} (hu : X.A.units + 100 < cLine) : CallR X (.builtin "sorted") (rSrt X.K) := by
  intro pins s σ H vs us Q I r h
  obtain ⟨a, xs, ds, rfl, hs, hd, hok, q⟩ := h
  obtain ⟨its, rv, hl, hz⟩ := I.list hs
  rw [Vals.ref1 r]
  obtain ⟨e1, e2⟩ := each_two I hd rv
  obtain ⟨o1, o2, o3, o4⟩ := sortOk_of hok
  have hm : (xs.zip ds).map Prod.snd = ds := List.map_snd_zip (by rw [dpa_len hd]; exact Nat.le_refl _)
  have hlen : (xs.zip ds).length = ds.length := by rw [← hm, List.length_map, hm]
  refine PySem.W.sorted_data (enc := Prod.snd) hl.isList e1 e2 (by rw [hm]; exact o1) (by rw [hm]; exact o2) (by rw [hlen]; exact most_line o3) (fun b hb => ?_) fun out hout eo => ?_
  · have := o4 b.2 (by rw [← hm]; exact List.mem_map.mpr ⟨b, hb, rfl⟩)
    omega
  · have hp : ((xs.zip ds).mergeSort (PySem.W.dataLe false Prod.snd)).Perm (xs.zip ds) := List.mergeSort_perm _ _
    have hsnd : ((xs.zip ds).mergeSort (PySem.W.dataLe false Prod.snd)).map Prod.snd = srtA ds := by
      unfold srtA
      have e3 := List.map_mergeSort (f := Prod.snd) (r := PySem.W.dataLe false (Prod.snd : V × D → D)) (s := PySem.W.dataLe false id) (l := xs.zip ds) (fun _ _ _ _ => rfl)
      rw [e3, hm]
    obtain ⟨ep, he'⟩ := PyProof.Rows.sortedAll_at s.heap its out.toArray
    have hl2 : (((xs.zip ds).mergeSort (PySem.W.dataLe false Prod.snd)).map Prod.fst).length ≤ sizeLine := by rw [List.length_map, hp.length_eq, hlen]; exact most_line o3
    exact ⟨.ref _, upd H (s.heap.objs.size + 1) (.lst (((xs.zip ds).mergeSort (PySem.W.dataLe false Prod.snd)).map Prod.fst)), I.laid (t' := s.toks) (fun _ _ => PyProof.Rows.sortedAll_old) (Nat.le_succ _) ⟨hl2, out, ep, each_vals eo, he'⟩, rfl, q _ _ hp hsnd (I.hok.fresh (Nat.le_succ _))⟩
theorem rpa_zip {K : PySem.W.Frag} {B : Hp} : ∀ {xs : List V} {ds : List D}, RpA K B xs ds → ∀ b ∈ xs.zip ds, Rp K B b.1 b.2
  | _, _, .nil, b, h => by simp at h
  | _, _, .cons p r, b, h => by
    rcases List.mem_cons.mp h with e | h
    · rw [e]; exact p
    · exact rpa_zip r b h
theorem rpa_unzip {K : PySem.W.Frag} {B : Hp} : ∀ {l : List (V × D)}, (∀ b ∈ l, Rp K B b.1 b.2) → RpA K B (l.map Prod.fst) (l.map Prod.snd)
  | [], _ => .nil
  | b :: l, h => .cons (h b List.mem_cons_self) (rpa_unzip fun c hc => h c (List.mem_cons_of_mem _ hc))
theorem ev_srt {cl : Cl} {ia : IE} {env : List Sl} {st : Pl} {d : D} {st' : Pl} (he : ev cl (.srt ia) env st = some (d, st')) : ∃ xs, ev cl ia env st = some (.list xs, st') ∧ sortOk xs = true ∧ d = .list (srtA xs) := by
  unfold ev at he
  split at he
  · rename_i xs st1 e1
    obtain ⟨h1, h2⟩ := ite_some he
    cases h2
    exact ⟨xs, e1, h1, rfl⟩
  · cases he
section
variable {Γ : Gam} {e a b c : Expr} {ia ib ic i : IE} {pos p0 p1 : Pos}
theorem srt_sf (ha : SE Γ a ia) (hb : Γ.bs.contains "sorted" = true := by rfl) (hg : GlS Γ.sc "sorted" := by rfl) (hs : ∀ env, starEach [a] env = (false, eval a env) :: starEach [] env := by intro _; rfl) : SF Γ (.Call (.Name "sorted" p0) [a] [] pos) (.srt ia) := fun X p o =>
  PE_weak (pe_callB (cr_srt o.units) (o.gl hg) (o.bl _ (List.contains_iff_mem.mp hb)) (by decide +kernel) ((sa_cons ha sa_nil hs) X p o) (by decide) (by decide) (hs _) rfl) fun σ H Q q => by
    obtain ⟨st, B, M, F, env, ds, st', r, he, k⟩ := q
    obtain ⟨xs, e1, h1, e2⟩ := ev_srt he
    cases e2
    refine ⟨st, B, M, F, env, [.list xs], _, r, by unfold ea; rw [e1]; rfl, fun vs B1 H1 x1 r1 pv => ?_⟩
    match vs, pv with
    | [_], .cons (@Rp.lst _ _ l zs _ hx rx) .nil =>
      refine ⟨l, zs, xs, rfl, by rw [o.K]; exact Or.inl (Or.inl (r1.bs.b _ _ hx)), by rw [o.K]; exact rx.dp r1.bs.b, h1, fun m q hp hm hq => ?_⟩
      obtain ⟨f1, f2, f3, f4⟩ := r1.freshM hq
      refine k q _ B1 _ x1 f1 f2 f3 f4 upd_same ?_ (r1.more hq)
      rw [← hm]
      exact rpa_unzip fun b hb => rpa_zip rx b (hp.mem_iff.mp hb)
theorem srt_se (ha : SE Γ a ia) (hb : Γ.bs.contains "sorted" = true := by rfl) (hg : GlS Γ.sc "sorted" := by rfl) (hs : ∀ env, starEach [a] env = (false, eval a env) :: starEach [] env := by intro _; rfl) : SE Γ (.Call (.Name "sorted" p0) [a] [] pos) (.srt ia) := (srt_sf ha hb hg hs).se fun _ _ _ _ _ he => by
  obtain ⟨xs, _, _, e⟩ := ev_srt he
  exact ⟨_, e⟩
/-! ### truth -/
theorem rpa_emp {K : PySem.W.Frag} {B : Hp} {xs : List V} {ds : List D} (r : RpA K B xs ds) : (!xs.isEmpty) = !ds.isEmpty := by cases r <;> rfl
theorem tru_st (ha : SE Γ a ia) (hs : ∀ env whole, isTrue a env whole = (do let v ← whole; standAt a.pos; holding [v] (truthy v)) := by intro _ _; rfl) : ST Γ a (.tru ia) := fun X p o =>
  PT_weak (pt_truth (ha X p o) (fun w => hs X.env w)) fun σ H Q q => by
    obtain ⟨st, B, M, F, env, b, st', r, he, k⟩ := q
    unfold ev at he
    split at he
    · rename_i x st1 e1
      obtain ⟨t, e2, e3⟩ := Option.map_eq_some_iff.mp he
      cases e3
      refine ⟨st, B, M, F, env, x, _, r, e1, fun v B1 H1 x1 r1 pv => ?_⟩
      rw [o.K]
      cases pv with
      | int n =>
        cases e2
        exact ⟨_, rfl, k B1 H1 x1 r1⟩
      | @lst l zs ds hx rx =>
        cases e2
        exact ⟨_, .inl ⟨zs, Or.inl (Or.inl (r1.bs.b _ _ hx)), (rpa_emp rx).symm⟩, k B1 H1 x1 r1⟩
      | @tup l zs ds hx rx =>
        cases e2
        exact ⟨_, .inr (.inl ⟨zs, sqt_mono r1.bs.b hx, (rpa_emp rx).symm⟩), k B1 H1 x1 r1⟩
      | _ => cases e2
    · cases he
end
/-! ### a comprehension with two names -/
theorem wipe_get (σ : L2.St) : ∀ (js : List Nat) (i : Nat), (wipe σ js)[i]? = if i ∈ js then σ[i]?.map (fun _ => none) else σ[i]?
  | [], i => by simp [wipe]
  | j :: js, i => by
    unfold wipe
    by_cases e : j = i
    · subst e
      rw [if_pos List.mem_cons_self, List.getElem?_set]
      by_cases hl : j < σ.length
      · rw [if_pos rfl, if_pos (by rw [wipe_length]; exact hl), List.getElem?_eq_getElem hl]
        rfl
      · rw [if_pos rfl, if_neg (by rw [wipe_length]; exact hl), List.getElem?_eq_none (Nat.le_of_not_lt hl)]
        rfl
    · rw [List.getElem?_set_ne e, wipe_get σ js i]
      have : (i ∈ j :: js) = (i ∈ js) := by
        apply propext
        constructor
        · intro h
          rcases List.mem_cons.mp h with h | h
          · exact absurd h.symm e
          · exact h
        · exact List.mem_cons_of_mem _
      simp only [this]
theorem wipe_agree {σ τ : L2.St} {js : List Nat} (hl : τ.length = σ.length) (h : ∀ i, i ∉ js → τ[i]? = σ[i]?) : wipe τ js = wipe σ js := by
  apply List.ext_getElem?
  intro i
  rw [wipe_get, wipe_get]
  by_cases c : i ∈ js
  · rw [if_pos c, if_pos c]
    by_cases hi : i < σ.length
    · rw [List.getElem?_eq_getElem hi, List.getElem?_eq_getElem (by rw [hl]; exact hi)]
      rfl
    · rw [List.getElem?_eq_none (Nat.le_of_not_lt hi), List.getElem?_eq_none (by rw [hl]; exact Nat.le_of_not_lt hi)]
  · rw [if_neg c, if_neg c, h i c]
def setV : List Nat → List V → L2.St → L2.St
  | j :: js, v :: vs, σ => setV js vs (σ.set j (some v))
  | _, _, σ => σ
theorem setV_len : ∀ (js : List Nat) (vs : List V) (σ : L2.St), (setV js vs σ).length = σ.length
  | j :: js, v :: vs, σ => by
    show (setV js vs (σ.set j (some v))).length = _
    rw [setV_len, List.length_set]
  | [], _, _ => rfl
  | _ :: _, [], _ => rfl
theorem setV_get : ∀ (js : List Nat) (vs : List V) (σ : L2.St) (i : Nat), i ∉ js → (setV js vs σ)[i]? = σ[i]?
  | j :: js, v :: vs, σ, i, h => by
    show (setV js vs (σ.set j (some v)))[i]? = _
    rw [setV_get js vs _ i (fun q => h (List.mem_cons_of_mem _ q)), List.getElem?_set_ne (fun e => h (by rw [e]; exact List.mem_cons_self))]
  | [], _, _, _, _ => rfl
  | _ :: _, [], _, _, _ => rfl
theorem gMany_go {H : Hp} : ∀ {js : List Nat} {vs : List V} {σ : L2.St} {Q : L2.St → Hp → Prop}, js.length = vs.length → Q (setV js vs σ) H → gMany js vs σ H Q
  | [], [], σ, Q, _, k => ⟨rfl, k⟩
  | j :: js, v :: vs, σ, Q, h, k => ⟨v, vs, rfl, gMany_go (Nat.succ.inj h) k⟩
def noE : List Nat → List Sl → List Sl
  | [], env => env
  | j :: js, env => (noE js env).set j .no
theorem noE_len (env : List Sl) : ∀ js : List Nat, (noE js env).length = env.length
  | [] => rfl
  | j :: js => by unfold noE; rw [List.length_set, noE_len env js]
theorem noE_get (env : List Sl) : ∀ (js : List Nat) (i : Nat), i ∉ js → (noE js env)[i]? = env[i]?
  | [], _, _ => rfl
  | j :: js, i, h => by
    unfold noE
    rw [List.getElem?_set_ne (fun e => h (by rw [e]; exact List.mem_cons_self)), noE_get env js i (fun q => h (List.mem_cons_of_mem _ q))]
theorem setMany_agree : ∀ {js : List Nat} {ds : List D} {e1 e2 : List Sl}, e1.length = e2.length → (∀ i, i ∉ js → e1[i]? = e2[i]?) → setMany js ds e1 = setMany js ds e2
  | [], [], e1, e2, _, h => by
    show some e1 = some e2
    exact congrArg some (List.ext_getElem? fun i => h i (by simp))
  | j :: js, d :: ds, e1, e2, hl, h => by
    show setMany js ds (e1.set j (.im d)) = setMany js ds (e2.set j (.im d))
    refine setMany_agree (by rw [List.length_set, List.length_set, hl]) fun i hi => ?_
    rw [List.getElem?_set, List.getElem?_set]
    by_cases c : j = i
    · subst c
      rw [if_pos rfl, if_pos rfl, hl]
    · rw [if_neg c, if_neg c]
      exact h i (fun q => by
        rcases List.mem_cons.mp q with z | z
        · exact c z.symm
        · exact hi z)
  | [], _ :: _, _, _, _, _ => rfl
  | _ :: _, [], _, _, _, _ => rfl
section
variable {K : PySem.W.Frag} {p : Pa} {st : Pl} {B M F : Hp} {env : List Sl} {σ : L2.St} {H : Hp}
theorem Rel.wipe1 (r : Rel K p st B M F env σ H) (j : Nat) : Rel K p st B M F (env.set j .no) (σ.set j none) H := ⟨r.bs, r.m, r.md, r.mc, r.mt, {
  len := by rw [List.length_set, List.length_set]; exact r.en.len
  at_ := fun i s hi => by
    by_cases e : j = i
    · subst e
      have hl : j < env.length := by
        have := (List.getElem?_eq_some_iff.mp hi).1
        rwa [List.length_set] at this
      rw [List.getElem?_set_self hl] at hi
      cases hi
      exact ⟨none, List.getElem?_set_self (by rw [← r.en.len]; exact hl), True.intro⟩
    · rw [List.getElem?_set_ne e] at hi
      obtain ⟨w, h1, h2⟩ := r.en.at_ i s hi
      exact ⟨w, by rw [List.getElem?_set_ne e]; exact h1, h2⟩
  ap := fun i k ds es b hi hk si sk => by
    have ne : ∀ {i : Nat} {ds : List D}, (env.set j .no)[i]? = some (.ow ds) → j ≠ i := fun {i ds} hi e => by
      subst e
      have hl : j < env.length := by
        have := (List.getElem?_eq_some_iff.mp hi).1
        rwa [List.length_set] at this
      rw [List.getElem?_set_self hl] at hi
      cases hi
    have n1 := ne hi
    have n2 := ne hk
    rw [List.getElem?_set_ne n1] at hi si
    rw [List.getElem?_set_ne n2] at hk sk
    exact r.en.ap i k ds es b hi hk si sk
  io := fun i b ds hp hi => by
    by_cases e : j = i
    · subst e
      have hl : j < env.length := by
        have := (List.getElem?_eq_some_iff.mp hi).1
        rwa [List.length_set] at this
      rw [List.getElem?_set_self hl] at hi
      cases hi
    · rw [List.getElem?_set_ne e] at hi ⊢
      exact r.en.io i b ds hp hi }⟩
theorem Rel.wipe (r : Rel K p st B M F env σ H) : ∀ js : List Nat, Rel K p st B M F (noE js env) (wipe σ js) H
  | [] => r
  | j :: js => (Rel.wipe r js).wipe1 j
theorem Rel.setV : ∀ {js : List Nat} {vs : List V} {ds : List D} {env env' : List Sl} {σ : L2.St}, Rel K p st B M F env σ H → RpA K B vs ds → setMany js ds env = some env' → Rel K p st B M F env' (setV js vs σ) H
  | [], _, [], env, env', σ, r, .nil, he => by
    cases he
    exact r
  | j :: js, _, d :: ds, env, env', σ, r, .cons pv rv, he => Rel.setV (js := js) (ds := ds) (r.set pv j) rv (show setMany js ds (env.set j (.im d)) = some env' from he)
  | [], _, _ :: _, _, _, _, _, _, he => by cases he
  | _ :: _, _, [], _, _, _, _, _, he => by cases he
end
end Ip

set_option Elab.async false
set_option linter.all false
set_option maxRecDepth 100000
set_option maxHeartbeats 4000000
namespace Ip
open PySem L2
def lcFM (cl : Cl) (js : List Nat) (cs : IEs) (e : IE) (env : List Sl) : D → Pl → Option (Option D × Pl) := fun d st => match itD d with
        | some zs => (match setMany js zs env with
          | some env1 => (match et cl cs env1 st with
            | some (true, st2) => (match ev cl e env1 st2 with
              | some (y, st3) => some (some y, st3)
              | none => none)
            | some (false, st2) => some (none, st2)
            | none => none)
          | none => none)
        | none => none
theorem ev_lcm {cl : Cl} {js : List Nat} {it : IT} {cs : IEs} {e : IE} {env : List Sl} {st : Pl} {d : D} {st4 : Pl} (h : ev cl (.lcm js it cs e) env st = some (d, st4)) :
    ∃ ds st1 ys, ei cl it env st = some (ds, st1) ∧ ds.length ≤ most ∧ lcG (lcFM cl js cs e env) ds st1 = some (ys, st4) ∧ d = .list ys := by
  unfold ev at h
  split at h
  · rename_i ds st1 e1
    obtain ⟨hl, h⟩ : ds.length ≤ most ∧ _ := by
      by_cases hl : ds.length ≤ most
      · rw [if_pos hl] at h
        exact ⟨hl, h⟩
      · rw [if_neg hl] at h
        cases h
    split at h
    · rename_i ys st5 e2
      cases h
      exact ⟨ds, st1, ys, e1, hl, e2, rfl⟩
    · cases h
  · cases h
def gBoth (K : PySem.W.Frag) (js : List Nat) : TG := fun v σ H Q => gTup K js.length (gMany js) v σ H Q ∨ gUnl K js.length (gMany js) v σ H Q
theorem gBoth_go {K : PySem.W.Frag} {B H : Hp} {v : V} {d : D} {zs : List D} {js : List Nat} {σ : L2.St} {Q : L2.St → Hp → Prop} (pv : Rp K B v d) (x : Ex B H) (h : itD d = some zs) (hl : zs.length = js.length) (k : ∀ vs, RpA K B vs zs → Q (setV js vs σ) H) : gBoth K js v σ H Q := by
  cases pv with
  | @lst a xs _ hx rx =>
    cases h
    exact .inr ⟨a, xs, rfl, Or.inl (Or.inl (x _ _ hx)), by rw [rx.length, hl], gMany_go (by rw [rx.length, hl]) (k xs rx)⟩
  | @tup a xs _ hx rx =>
    cases h
    exact .inl ⟨a, xs, rfl, sqt_mono x hx, by rw [rx.length, hl], gMany_go (by rw [rx.length, hl]) (k xs rx)⟩
  | _ => cases h
theorem lcm_read {K : PySem.W.Frag} {cl : Cl} {p : Pa} {js : List Nat} {it : IT} {cs : IEs} {ie : IE} {σ : L2.St} {H : Hp} {Q : VK} (q : Tf K cl p (.lcm js it cs ie) σ H Q) : tLc (Ti K cl p it) (gBoth K js) (Ts K cl p cs) (Tx K cl p ie) js σ H Q := by
  obtain ⟨st, B, M, F, env, ds, st', r, he, k⟩ := q
  obtain ⟨dz, st1, ys, e1, hl, e2, e3⟩ := ev_lcm he
  cases e3
  refine walk_lcG r e1 (fun B1 Dl n B' H' => Ex B1 B' ∧ Ex B' H' ∧ Ex B B' ∧ ∃ sti acc zs rest, Rel K p sti B' M F env σ H' ∧ H' Dl = some (.lst acc) ∧ RpA K B' acc zs ∧ Fr B' M F p Dl ∧ zs.length ≤ n ∧ lcG (lcFM cl js cs ie env) (dz.drop n) sti = some (rest, st') ∧ zs ++ rest = ds)
    (fun B1 H1 Dl x1 r1 hD => ?_) (fun B1 Dl n B' H' q => ⟨q.1, q.2.1⟩) (fun B1 Dl n B' H' q o z hq => lcP_new (R := fun zs sti rest => lcG (lcFM cl js cs ie env) (dz.drop n) sti = some (rest, st') ∧ zs ++ rest = ds) z hq) (fun B1 Dl n d v B' H' x1 hd pv q => ?_) (fun B1 Dl B' H' x1 q => ?_)
  · have f := r1.fr hD
    exact ⟨Ex.refl B1, (r1.put f (.inl hD)).bs.b, x1, st1, [], [], ds, r1.put f (.inl hD), upd_same, .nil, f, Nat.le_refl _, e2, rfl⟩
  · obtain ⟨x2, x3, x4, sti, acc, zs, rest, r2, hacc, racc, f, hz, e4, e5⟩ := q
    have hn : n < dz.length := (List.getElem?_eq_some_iff.mp hd).1
    have hdr : dz.drop n = d :: dz.drop (n + 1) := (List.drop_eq_getElem_cons hn).trans (by rw [(List.getElem?_eq_some_iff.mp hd).2])
    rw [hdr] at e4
    have fin : ∀ z1, lcFM cl js cs ie env d sti = some z1 → ∃ ws env1, itD d = some ws ∧ setMany js ws env = some env1 ∧ (match et cl cs env1 sti with
            | some (true, st2) => (match ev cl ie env1 st2 with
              | some (y, st3) => some (some y, st3)
              | none => none)
            | some (false, st2) => some (none, st2)
            | none => none) = some z1 := by
      intro z1 hz1
      unfold lcFM at hz1
      split at hz1
      · rename_i ws e6
        split at hz1
        · rename_i env1 e7
          exact ⟨ws, env1, e6, e7, hz1⟩
        · cases hz1
      · cases hz1
    have key : ∀ ws env1, itD d = some ws → setMany js ws env = some env1 → ∀ (b : Bool) (st2 : Pl), et cl cs env1 sti = some (b, st2) → (b = false → lcG (lcFM cl js cs ie env) (dz.drop (n + 1)) st2 = some (rest, st')) →
        (b = true → ∃ y st3 zs', ev cl ie env1 st2 = some (y, st3) ∧ lcG (lcFM cl js cs ie env) (dz.drop (n + 1)) st3 = some (zs', st') ∧ rest = y :: zs') → gBoth K js v (wipe σ js) H' fun σ2 H2 => wipe σ2 js = wipe σ js ∧ Ts K cl p cs σ2 H2 fun b H3 => if b = true then Tx K cl p ie σ2 H3 fun y H4 => ∃ acc, H4 Dl = some (.lst acc) ∧ acc.length < sizeLine ∧ ∃ B2, (Ex B1 B2 ∧ Ex B2 (upd H4 Dl (.lst (acc ++ [y]))) ∧ Ex B B2 ∧ ∃ sti acc_1 zs rest, Rel K p sti B2 M F env σ (upd H4 Dl (.lst (acc ++ [y]))) ∧ upd H4 Dl (.lst (acc ++ [y])) Dl = some (.lst acc_1) ∧ RpA K B2 acc_1 zs ∧ Fr B2 M F p Dl ∧ zs.length ≤ n + 1 ∧ lcG (lcFM cl js cs ie env) (dz.drop (n + 1)) sti = some (rest, st') ∧ zs ++ rest = ds) else ∃ B2, (Ex B1 B2 ∧ Ex B2 H3 ∧ Ex B B2 ∧ ∃ sti acc zs rest, Rel K p sti B2 M F env σ H3 ∧ H3 Dl = some (.lst acc) ∧ RpA K B2 acc zs ∧ Fr B2 M F p Dl ∧ zs.length ≤ n + 1 ∧ lcG (lcFM cl js cs ie env) (dz.drop (n + 1)) sti = some (rest, st') ∧ zs ++ rest = ds) := by
      intro ws env1 h1 h2 b st2 e6 h3 h4
      have hws := setMany_len h2
      refine gBoth_go pv x3 h1 hws fun vs rv => ⟨?_, ?_⟩
      · refine wipe_agree (by rw [setV_len, wipe_length]) fun i hi => ?_
        rw [setV_get _ _ _ _ hi, wipe_get, if_neg hi]
      · have h5 : setMany js ws (noE js env) = some env1 := by
          rw [← h2]
          exact setMany_agree (noE_len env js) fun i hi => noE_get env js i hi
        have r3 := ((r2.take f hacc).wipe js).setV rv h5
        refine ⟨sti, B', upd M Dl (.lst acc), F, env1, b, st2, r3, e6, fun B3 H3 x5 r4 => ?_⟩
        cases b with
        | false =>
          refine iteF ⟨B3, x2.trans x5, r4.bs.b, x4.trans x5, st2, acc, zs, rest, r2.rest f.m x5 r4, (Rel.restFr f r4).2, racc.mono x5, (Rel.restFr f r4).1, by omega, h3 rfl, e5⟩
        | true =>
          obtain ⟨y, st3, zs', e7, e8, e9⟩ := h4 rfl
          refine iteT ⟨st2, B3, upd M Dl (.lst acc), F, env1, y, st3, r4, e7, fun w B4 H4 x6 r5 pw => ?_⟩
          have f4 := Rel.restFr f r5
          have r6 := (r2.rest f.m (x5.trans x6) r5).put (o := .lst (acc ++ [w])) f4.1 (.inr ⟨_, f4.2⟩)
          exact ⟨acc, f4.2, most_lt (by rw [racc.length]; omega), B4, (x2.trans x5).trans x6, r6.bs.b, (x4.trans x5).trans x6, st3, acc ++ [w], zs ++ [y], zs', r6, upd_same, (racc.mono (x5.trans x6)).append (.one pw), f4.1, by rw [List.length_append]; show zs.length + 1 ≤ n + 1; omega, e8, by rw [List.append_assoc, ← e5, e9]; rfl⟩
    rcases lcG_cons e4 with ⟨st3, e6, e7⟩ | ⟨y, st3, zs', e6, e7, e8⟩
    · obtain ⟨ws, env1, h1, h2, h3⟩ := fin _ e6
      split at h3
      · split at h3 <;> cases h3
      · rename_i st2 e9
        cases h3
        exact key ws env1 h1 h2 false _ e9 (fun _ => e7) (fun z => nomatch z)
      · cases h3
    · obtain ⟨ws, env1, h1, h2, h3⟩ := fin _ e6
      split at h3
      · rename_i st2 e9
        split at h3
        · rename_i y2 st5 e10
          cases h3
          exact key ws env1 h1 h2 true _ e9 (fun z => nomatch z) (fun _ => ⟨_, _, _, e10, e7, e8⟩)
        · cases h3
      · cases h3
      · cases h3
  · obtain ⟨x2, x3, x4, sti, acc, zs, rest, r2, hacc, racc, f, hz, e4, e5⟩ := q
    rw [List.drop_length] at e4
    unfold lcG at e4
    cases e4
    rw [List.append_nil] at e5
    subst e5
    exact k Dl acc B' H' x4 f.b f.m f.f f.p hacc racc r2
section
variable {Γ : Gam} {e : Expr} {i : IE} {pos p0 p1 : Pos} {x : Str}
theorem two_pg {X : Cx} {js : List Nat} {x1 x2 : Str} {px1 px2 pt : Pos} {kk : Nat} {K : PySem.W.Frag} {j1 j2 : Nat} (hc : X.calm = true) (hK : X.K = K) (h1 : PG X (.Name x1 px1) (gName j1)) (h2 : PG X (.Name x2 px2) (gName j2)) :
    PG X (.Tuple [.Name x1 px1, .Name x2 px2] kk pt) (gBoth K [j1, j2]) := by
  subst hK
  exact PG_or (pg_tup (n := 2) hc (pgs_cons h1 (pgs_cons h2 pgs_nil))) (pg_unl (n := 2) hc (pgs_cons h1 (pgs_cons h2 pgs_nil)))
theorem lcm_sf {elt iter : Expr} {ifs : List Expr} {scope : Scope} {x1 x2 : Str} {px1 px2 pt : Pos} {kk : Nat} {it : IT} {cs : IEs} {ie : IE} (j1 j2 : Nat) (hi : SIg Γ (.Tuple [.Name x1 px1, .Name x2 px2] kk pt) iter it) (hc : STs (Γ.blk scope) ifs cs) (he : SE (Γ.blk scope) elt ie) (hh : Γ.hot = false := by rfl)
    (hb : blkC Γ.N Γ.sc scope [(x1, j1), (x2, j2)] = true := by rfl) (h1 : Γ.N[j1]? = some x1 := by rfl) (h2 : Γ.N[j2]? = some x2 := by rfl) (l1 : (relS scope Γ.sc).names.lookup x1 = some .local := by rfl) (l2 : (relS scope Γ.sc).names.lookup x2 = some .local := by rfl)
    (hs : ∀ env y, foldedSetIterable iter env y = pure y := by intro _ _; rfl) : SF Γ (.ListComp elt [⟨.Tuple [.Name x1 px1, .Name x2 px2] kk pt, iter, ifs, 0⟩] scope pos) (.lcm [j1, j2] it cs ie) := fun X p o => by
  refine PE_weak (pe_lc (own := [(x1, j1), (x2, j2)]) (g := gBoth Γ.K [j1, j2]) (tt := Ts Γ.K Γ.cl p cs) (te := Tx Γ.K Γ.cl p ie) (o.calm hh) (by rw [o.N]; exact o.nd) (hi X p o) (blkOk_by (by rw [o.N, o.sc]; exact hb))
    (fun s H C cl fp => ?_) (fun s H C cl fp => hc _ p (o.blk hh scope s H C cl fp)) (fun s H C cl fp => he _ p (o.blk hh scope s H C cl fp)) (hs _)) fun σ H Q q => lcm_read q
  have ob := o.blk hh scope s H C cl fp
  exact two_pg (js := []) (o.calm hh) o.K (pg_name (show X.N.Nodup by rw [o.N]; exact o.nd) (show X.N[j1]? = some x1 by rw [o.N]; exact h1) (show Loc _ x1 from .inl (by rw [ob.sc]; exact l1)) (.inr (by rw [ob.sc]; exact l1))) (pg_name (show X.N.Nodup by rw [o.N]; exact o.nd) (show X.N[j2]? = some x2 by rw [o.N]; exact h2) (show Loc _ x2 from .inl (by rw [ob.sc]; exact l2)) (.inr (by rw [ob.sc]; exact l2)))
theorem lcm_se {elt iter : Expr} {ifs : List Expr} {scope : Scope} {x1 x2 : Str} {px1 px2 pt : Pos} {kk : Nat} {it : IT} {cs : IEs} {ie : IE} (j1 j2 : Nat) (hi : SIg Γ (.Tuple [.Name x1 px1, .Name x2 px2] kk pt) iter it) (hc : STs (Γ.blk scope) ifs cs) (he : SE (Γ.blk scope) elt ie) (hh : Γ.hot = false := by rfl)
    (hb : blkC Γ.N Γ.sc scope [(x1, j1), (x2, j2)] = true := by rfl) (h1 : Γ.N[j1]? = some x1 := by rfl) (h2 : Γ.N[j2]? = some x2 := by rfl) (l1 : (relS scope Γ.sc).names.lookup x1 = some .local := by rfl) (l2 : (relS scope Γ.sc).names.lookup x2 = some .local := by rfl)
    (hs : ∀ env y, foldedSetIterable iter env y = pure y := by intro _ _; rfl) : SE Γ (.ListComp elt [⟨.Tuple [.Name x1 px1, .Name x2 px2] kk pt, iter, ifs, 0⟩] scope pos) (.lcm [j1, j2] it cs ie) := (lcm_sf j1 j2 hi hc he hh hb h1 h2 l1 l2 hs).se fun _ _ _ _ _ h => by
  obtain ⟨_, _, ys, _, _, _, e⟩ := ev_lcm h
  exact ⟨ys, e⟩
/-- flat items stand anywhere -/
theorem rpa_flat {K : PySem.W.Frag} {B B' : Hp} : ∀ {xs : List V} {ds : List D}, RpA K B xs ds → ds.all flatD = true → RpA K B' xs ds
  | _, _, .nil, _ => .nil
  | _, d :: ds, .cons p r, h => by
    rw [List.all_cons, Bool.and_eq_true] at h
    refine .cons ?_ (rpa_flat r h.2)
    cases p with
    | non => exact .non
    | bl b => exact .bl b
    | int n => exact .int n
    | str s => exact .str s
    | _ => exact absurd h.1 (by intro e; cases e)
/-- x = [.. for a, b in ..], own lists lent to it -/
theorem ss_lcmOl (is : List Nat) (j : Nat) {elt iter : Expr} {ifs : List Expr} {scope : Scope} {x1 x2 : Str} {px1 px2 pt : Pos} {kk : Nat} {it : IT} {cs : IEs} {ie : IE} (j1 j2 : Nat) (hi : SIg Γ (.Tuple [.Name x1 px1, .Name x2 px2] kk pt) iter it) (hc : STs (Γ.blk scope) ifs cs) (he : SE (Γ.blk scope) elt ie) (hh : Γ.hot = false := by rfl)
    (hN : Γ.N[j]? = some x := by rfl) (hlv : Γ.sc.names.lookup x = some .local := by rfl) (hb : blkC Γ.N Γ.sc scope [(x1, j1), (x2, j2)] = true := by rfl) (h1 : Γ.N[j1]? = some x1 := by rfl) (h2 : Γ.N[j2]? = some x2 := by rfl) (l1 : (relS scope Γ.sc).names.lookup x1 = some .local := by rfl) (l2 : (relS scope Γ.sc).names.lookup x2 = some .local := by rfl)
    (hk : Γ.sc.kind = .function := by rfl) (hln : (p0.line == p1.line) = true := by rfl) (hany : (scope.names.any fun (n, k) => n == x && (k == .local || k == .cell)) = false := by rfl)
    (hs : ∀ env y, foldedSetIterable iter env y = pure y := by intro _ _; rfl) (hio : (Γ.io == some j) = false := by rfl) : SS Γ (.Assign [.Name x p0] (.ListComp elt [⟨.Tuple [.Name x1 px1, .Name x2 px2] kk pt, iter, ifs, 0⟩] scope p1) pos) (.ownl is j (.lcm [j1, j2] it cs ie)) := fun X p o =>
  PS_weak (ps_setLc (i := j) (own := [(x1, j1), (x2, j2)]) (g := gBoth Γ.K [j1, j2]) (tt := Ts Γ.K Γ.cl p cs) (te := Tx Γ.K Γ.cl p ie) (o.calm hh) (by rw [o.N]; exact o.nd) (by rw [o.N]; exact hN) (by rw [o.sc]; exact hlv)
    (sw_true (by rw [o.sc]; exact hk) (by rw [o.sc]; exact hlv) hln hany) (hi X p o.toOkx) (blkOk_by (by rw [o.N, o.sc]; exact hb))
    (fun s H C cl fp => two_pg (js := []) (o.calm hh) o.K (pg_name (show X.N.Nodup by rw [o.N]; exact o.nd) (show X.N[j1]? = some x1 by rw [o.N]; exact h1) (show Loc _ x1 from .inl (by rw [(o.toOkx.blk hh scope s H C cl fp).sc]; exact l1)) (.inr (by rw [(o.toOkx.blk hh scope s H C cl fp).sc]; exact l1))) (pg_name (show X.N.Nodup by rw [o.N]; exact o.nd) (show X.N[j2]? = some x2 by rw [o.N]; exact h2) (show Loc _ x2 from .inl (by rw [(o.toOkx.blk hh scope s H C cl fp).sc]; exact l2)) (.inr (by rw [(o.toOkx.blk hh scope s H C cl fp).sc]; exact l2))))
    (fun s H C cl fp => hc _ p (o.toOkx.blk hh scope s H C cl fp)) (fun s H C cl fp => he _ p (o.toOkx.blk hh scope s H C cl fp)) (hs _)) fun D σ H q => by
    obtain ⟨st, B, M, F, env, out, r, he, k⟩ := q
    unfold evS at he
    split at he
    · rename_i ds st1 e1
      obtain ⟨hf, he⟩ := ite_some he
      subst he
      obtain ⟨B1, M1, x1', y1, r1⟩ := r.freezeAll is
      refine lcm_read ⟨st, B1, M1, F, _, ds, st1, r1, e1, fun a xs B' H' x2' g1 g2 g3 g4 g5 g6 r' => ?_⟩
      obtain ⟨B2, x3, r2, le⟩ := r.giveBack x1' y1 x2' r'
      have hM : M a = none := by
        cases hm : M a with
        | none => rfl
        | some w =>
          rcases y1 a w hm with z | z
          · rw [g2] at z
            cases z
          · rw [x2' a w z] at g1
            cases g1
      have hB : B2 a = none := by
        cases hb2 : B2 a with
        | none => rfl
        | some w =>
          rw [le a w hb2] at g1
          cases g1
      exact k B2 _ _ H' x3 (r2.setOw ⟨hB, hM, g3, g4⟩ g5 (rpa_flat g6 hf) j (o.noIo hio))
    · cases he
end
/-- a number written with a sign -/
theorem ng_tc {X : Cx} {n : Int} {k : Nat} {p1 p2 : Pos} : PE X (.UnaryOp .USub (.Constant (.int n) k p1) p2) (tC (.int (-n))) := PE_weak (pe_un un_neg pe_int) fun σ H Q q => ⟨n, rfl, q⟩
theorem ng_se {Γ : Gam} {n : Int} {k : Nat} {p1 p2 : Pos} : SE Γ (.UnaryOp .USub (.Constant (.int n) k p1) p2) (.cst (.int (-n))) := se_cst (K := Γ.K) (.int (-n)) (fun _ => ng_tc) fun _ _ => .int (-n)
end Ip

set_option Elab.async false
set_option linter.all false
set_option maxRecDepth 100000
set_option maxHeartbeats 4000000
/-! x = a + b, lists: the sum is a new list of the def's own. -/
namespace Ip
open PySem L2
theorem addl_sf {Γ : Gam} {a b : Expr} {ia ib : IE} {pos : Pos} (ha : SE Γ a ia) (hb : SE Γ b ib) : SF Γ (.BinOp a .Add b pos) (.bin .add ia ib) := fun X p o => PE_weak (pe_op op_cat (ha X p o) (hb X p o)) fun σ H Q q => by
  obtain ⟨st, B, M, F, env, ds, st', r, he, k⟩ := q
  unfold ev at he
  cases e1 : ev Γ.cl ia env st with
  | none =>
    rw [e1] at he
    cases he
  | some xs =>
    obtain ⟨x, st1⟩ := xs
    rw [e1] at he
    cases e2 : ev Γ.cl ib env st1 with
    | none =>
      simp only [e2] at he
      cases he
    | some ys =>
      obtain ⟨y, st2⟩ := ys
      simp only [e2] at he
      obtain ⟨z, e3, e4⟩ := Option.map_eq_some_iff.mp he
      cases e4
      have sh : ∃ xs ys, x = .list xs ∧ y = .list ys ∧ xs.length + ys.length ≤ most ∧ ds = xs ++ ys := by
        unfold binD at e3
        split at e3
        all_goals first
          | (split at e3
             · cases e3
               exact ⟨_, _, rfl, rfl, by assumption, rfl⟩
             · cases e3)
          | cases e3
          | (split at e3 <;> cases e3)
      obtain ⟨xs, ys, rfl, rfl, hl, rfl⟩ := sh
      refine ⟨st, B, M, F, env, _, st1, r, e1, fun v B1 H1 x1 r1 p1 => ⟨st1, B1, M, F, env, _, st', r1, e2, fun u B2 H2 x2 r2 p2 => ?_⟩⟩
      have p1 := p1.mono x2
      cases p1 with
      | @lst l vs _ hx rx =>
        cases p2 with
        | @lst l2 us _ hy ry =>
          refine ⟨_, _, _, _, rfl, rfl, r2.bs.b _ _ hx, r2.bs.b _ _ hy, most_line (by rw [rx.length, ry.length]; exact hl), fun q hq => ?_⟩
          obtain ⟨h1, h2, h3, h4⟩ := r2.freshM hq
          exact k q _ B2 _ (x1.trans x2) h1 h2 h3 h4 upd_same (rx.append ry) (r2.more hq)
end Ip

set_option Elab.async false
set_option linter.all false
set_option maxRecDepth 100000
set_option maxHeartbeats 4000000
/-! Generator defs of any rows: rows that hand out nothing, yields, loops over lists and tuples, ifs. -/
namespace Ip
open PySem L2
mutual
inductive GR where
  | pl (s : IS)
  | yld (e : IE)
  | forr (j : Sg) (e : IE) (b : GRs)
  | iff (c : IE) (a b : GRs)
inductive GRs where
  | nil
  | cons (s : GR) (r : GRs)
end
/-- what is out, the names, the pool -/
abbrev GO := List D × List Sl × Pl
def forY (f : D → List D → List Sl → Pl → Option GO) : List D → List D → List Sl → Pl → Option GO
  | [], ys, env, st => some (ys, env, st)
  | d :: ds, ys, env, st => match f d ys env st with
    | some (ys1, env1, st1) => forY f ds ys1 env1 st1
    | none => none
mutual
def evG (cl : Cl) : GR → List D → List Sl → Pl → Option GO
  | .pl s, ys, env, st => (match evS cl s env st with
    | some (.nx env1 st1) => some (ys, env1, st1)
    | _ => none)
  | .yld e, ys, env, st => (match ev cl e env st with
    | some (d, st1) => if ys.length < most then some (ys ++ [d], env, st1) else none
    | none => none)
  | .forr j e b, ys, env, st => (match ev cl e env st with
    | some (x, st1) => (match itD x with
      | some ds => forY (fun d ys env st => match sgD j d env with
        | some env1 => evGs cl b ys env1 st
        | none => none) ds ys env st1
      | none => none)
    | none => none)
  | .iff c a b, ys, env, st => (match ev cl c env st with
    | some (.bool true, st1) => evGs cl a ys env st1
    | some (.bool false, st1) => evGs cl b ys env st1
    | _ => none)
def evGs (cl : Cl) : GRs → List D → List Sl → Pl → Option GO
  | .nil, ys, env, st => some (ys, env, st)
  | .cons s r, ys, env, st => (match evG cl s ys env st with
    | some (ys1, env1, st1) => evGs cl r ys1 env1 st1
    | none => none)
end
structure GF where
  n : Nat
  body : GRs
def runG (cl : Cl) (f : GF) (as : List (Option D)) (st : Pl) : Option (D × Pl) :=
  match evGs cl f.body [] (as.map slOf ++ List.replicate (f.n - as.length) .no) st with
  | some (ys, _, st1) => some (.list ys, st1)
  | none => none
def runGI (n : Nat) (cl : Cl) (f : GF) (as : List (Option D)) (st : Pl) : Option (D × Pl) := if as.length = n then runG cl f as st else none
theorem runGI_of {n : Nat} {cl : Cl} {f : GF} {as : List (Option D)} {s : Pl} {d : D} {s' : Pl} (e : runGI n cl f as s = some (d, s')) : as.length = n ∧ runG cl f as s = some (d, s') := by
  unfold runGI at e
  split at e
  · rename_i h
    exact ⟨h, e⟩
  · cases e
/-! ### read -/
def YK (K : PySem.W.Frag) (p : Pa) (B F : Hp) (D : GEnds) (o : GO) : Prop := ∀ xs B' M σ H, Ex B B' → Rel K p o.2.2 B' M F o.2.1 σ H → RpA K B' xs o.1 → D.nx xs σ H
theorem YK.mono {K : PySem.W.Frag} {p : Pa} {B B' F : Hp} {D : GEnds} {o : GO} (x : Ex B B') (h : YK K p B F D o) : YK K p B' F D o := fun xs B2 M σ H x2 r q => h xs B2 M σ H (x.trans x2) r q
def TG1 (K : PySem.W.Frag) (cl : Cl) (p : Pa) (g : GR) : TGn := fun D ys σ H => ∃ st B M F env zs o, Rel K p st B M F env σ H ∧ RpA K B ys zs ∧ evG cl g zs env st = some o ∧ YK K p B F D o
def TGs1 (K : PySem.W.Frag) (cl : Cl) (p : Pa) (g : GRs) : TGn := fun D ys σ H => ∃ st B M F env zs o, Rel K p st B M F env σ H ∧ RpA K B ys zs ∧ evGs cl g zs env st = some o ∧ YK K p B F D o
structure CoOk (X : Cx) : Prop where
  co : X.env.scope.isCoroutine = false
  it : interactive X.env = false
def SGn (Γ : Gam) (s : Stmt) (g : GR) : Prop := ∀ X p, Oks Γ X p → CoOk X → GS X s (TG1 Γ.K Γ.cl p g)
def SGns (Γ : Gam) (s : List Stmt) (g : GRs) : Prop := ∀ X p, Oks Γ X p → CoOk X → GSs X s (TGs1 Γ.K Γ.cl p g)
section
variable {Γ : Gam} {e c : Expr} {i ic : IE} {s : Stmt} {ss : List Stmt} {is : IS} {g : GR} {gs : GRs} {pos p1 p2 yp : Pos}
theorem sgn_nil : SGns Γ [] .nil := fun X p o c => GSs_weak gss_nil fun D ys σ H q => by
  obtain ⟨st, B, M, F, env, zs, out, r, rz, he, k⟩ := q
  unfold evGs at he
  cases he
  exact k ys B M σ H (Ex.refl B) r rz
theorem sgn_cons (h : SGn Γ s g) (hr : SGns Γ ss gs) : SGns Γ (s :: ss) (.cons g gs) := fun X p o c => GSs_weak (gss_cons (h X p o c) (hr X p o c)) fun D ys σ H q => by
  obtain ⟨st, B, M, F, env, zs, out, r, rz, he, k⟩ := q
  unfold evGs at he
  cases e1 : evG Γ.cl g zs env st with
  | none =>
    rw [e1] at he
    cases he
  | some o1 =>
    obtain ⟨ys1, env1, st1⟩ := o1
    rw [e1] at he
    exact ⟨st, B, M, F, env, zs, _, r, rz, e1, fun xs B' M' σ' H' x r' rz' => ⟨st1, B', M', F, env1, ys1, out, r', rz', he, k.mono x⟩⟩
theorem sgn_pl (h : SS Γ s is) : SGn Γ s (.pl is) := fun X p o c => GS_weak (gs_ps (h X p o)) fun D ys σ H q => by
  obtain ⟨st, B, M, F, env, zs, out, r, rz, he, k⟩ := q
  unfold evG at he
  split at he
  · rename_i env1 st1 e1
    cases he
    exact ⟨st, B, M, F, env, _, r, e1, fun B' M' σ' H' x r' => k ys B' M' σ' H' x r' (rz.mono x)⟩
  · cases he
theorem sgn_yld (h : SE Γ e i) : SGn Γ (.Expr (.Yield (some e) yp) pos) (.yld i) := fun X p o c => GS_weak (gs_yield (yp := yp) (pos := pos) (h X p o.toOkx) c.co c.it) fun D ys σ H q => by
  obtain ⟨st, B, M, F, env, zs, out, r, rz, he, k⟩ := q
  unfold evG at he
  split at he
  · rename_i d st1 e1
    split at he
    · rename_i hl
      cases he
      exact ⟨most_lt (by rw [rz.length]; exact hl), st, B, M, F, env, d, st1, r, e1, fun v B' H' x r' pv => k (ys ++ [v]) B' M σ H' x r' ((rz.mono x).append (.one pv))⟩
    · cases he
  · cases he
theorem sgn_iff {sa sb : List Stmt} {ga gb : GRs} (hc : ST Γ c ic) (ha : SGns Γ sa ga) (hb : SGns Γ sb gb) : SGn Γ (.If c sa sb pos) (.iff ic ga gb) := fun X p o co => GS_weak (L2N.gen_if (ps := pos) (hc X p o.toOkx) (ha X p o co) (hb X p o co)) fun D ys σ H q => by
  obtain ⟨st, B, M, F, env, zs, out, r, rz, he, k⟩ := q
  unfold evG at he
  split at he
  · rename_i st1 e1
    refine ⟨st, B, M, F, env, true, st1, r, e1, fun B' H' x r' => iteT ?_⟩
    exact ⟨st1, B', M, F, env, zs, out, r', rz.mono x, he, k.mono x⟩
  · rename_i st1 e1
    refine ⟨st, B, M, F, env, false, st1, r, e1, fun B' H' x r' => iteF ?_⟩
    exact ⟨st1, B', M, F, env, zs, out, r', rz.mono x, he, k.mono x⟩
  · cases he
/-- turns of a walk, with what is out -/
theorem turns {J : It} {n : Nat} {g : TG} {tb : TGn} {D : GEnds} {ys : List V} {σ : L2.St} {H : Hp} (Pv : Nat → List V → L2.St → Hp → Prop) (h0 : Pv 0 ys σ H)
    (hgo : ∀ i ys σ H, i < n → Pv i ys σ H → J.go i H) (hst : ∀ ys σ H, Pv n ys σ H → J.stop n H)
    (hs : ∀ i ys σ H x H', i < n → Pv i ys σ H → J.yld i H x H' → g x σ H' fun σ2 H2 => tb { D with nx := Pv (i + 1), ct := Pv (i + 1), bk := D.nx } ys σ2 H2) (hd : ∀ ys σ H, Pv n ys σ H → D.nx ys σ H) :
    ∃ W : Nat → Nat → List V → L2.St → Hp → Prop, (∃ m, W 0 m ys σ H) ∧ ∀ i m ys σ H, W i m ys σ H →
      (J.stop i H ∧ D.nx ys σ H) ∨ (J.go i H ∧ ∃ N : List V → L2.St → Hp → Prop, (∀ ys' σ' H', N ys' σ' H' → ∃ m', m' < m ∧ W (i + 1) m' ys' σ' H') ∧ ∀ x H', J.yld i H x H' → g x σ H' fun σ2 H2 => tb { D with nx := N, ct := N, bk := D.nx } ys σ2 H2) := by
  refine ⟨fun i m ys σ H => m = n - i ∧ i ≤ n ∧ Pv i ys σ H, ⟨n, by simp, Nat.zero_le _, h0⟩, ?_⟩
  rintro i m ys σ H ⟨rfl, hi, q⟩
  by_cases hlt : i < n
  · exact .inr ⟨hgo i ys σ H hlt q, Pv (i + 1), fun ys' σ' H' q' => ⟨n - (i + 1), by omega, rfl, hlt, q'⟩, fun x H' y => hs i ys σ H x H' hlt q y⟩
  · obtain rfl : i = n := by omega
    exact .inl ⟨hst ys σ H q, hd ys σ H q⟩
theorem sgn_for {itr tgt : Expr} {ie : IE} {j : Sg} {b : List Stmt} {gb : GRs} (hi : SI Γ itr (.seq ie)) (ht : SGt Γ tgt j) (hb : SGns Γ b gb) (hh : Γ.hot = false := by rfl) (hs : ∀ env y, foldedSetIterable itr env y = pure y := by intro _ _; rfl) :
    SGn Γ (.For tgt itr b [] pos) (.forr j ie gb) := fun X p o co => GS_weak (L2N.gen_for (ps := pos) o.own (o.calm hh) (hi X p tgt o.toOkx) (ht X p o) (hb X p o co) (hs _)) fun D ys σ H q => by
  obtain ⟨st, B, M, F, env, zs, out, r, rz, he, k⟩ := q
  unfold evG at he
  cases e1 : ev Γ.cl ie env st with
  | none =>
    rw [e1] at he
    cases he
  | some xs =>
    obtain ⟨x, st1⟩ := xs
    simp only [e1] at he
    cases e2 : itD x with
    | none =>
      rw [e2] at he
      cases he
    | some ds =>
      simp only [e2] at he
      have main : ∀ (J : It) (B1 : Hp) (H1 : Hp) (xs : List V), Ex B B1 → Rel Γ.K p st1 B1 M F env σ H1 → RpA Γ.K B1 xs ds → (∀ i B' H', Ex B1 B' → Ex B' H' → i < xs.length → J.go i H') → (∀ B' H', Ex B1 B' → Ex B' H' → J.stop xs.length H') →
          (∀ i B' H' v H2, Ex B1 B' → Ex B' H' → J.yld i H' v H2 → H2 = H' ∧ xs[i]? = some v) →
          ∃ W : Nat → Nat → List V → L2.St → Hp → Prop, (∃ m, W 0 m ys σ H1) ∧ ∀ i m ys σ H, W i m ys σ H →
            (J.stop i H ∧ D.nx ys σ H) ∨ (J.go i H ∧ ∃ N : List V → L2.St → Hp → Prop, (∀ ys' σ' H', N ys' σ' H' → ∃ m', m' < m ∧ W (i + 1) m' ys' σ' H') ∧ ∀ x H', J.yld i H x H' → Tgt Γ.K p j x σ H' fun σ2 H2 => TGs1 Γ.K Γ.cl p gb { D with nx := N, ct := N, bk := D.nx } ys σ2 H2) := fun J B1 H1 xs x1 r1 rx hgo hst hy => by
        refine turns (n := xs.length) (fun i ys σ H => ∃ B' sti envi Mi zi, Ex B1 B' ∧ Rel Γ.K p sti B' Mi F envi σ H ∧ RpA Γ.K B' ys zi ∧ forY (fun d ys env st => match sgD j d env with
            | some env1 => evGs Γ.cl gb ys env1 st
            | none => none) (ds.drop i) zi envi sti = some out) ⟨B1, st1, env, M, zs, Ex.refl _, r1, rz.mono x1, he⟩ (fun i ys σ H hin ⟨B', sti, envi, Mi, zi, y1, y2, _⟩ => hgo i B' H y1 y2.bs.b hin)
            (fun ys σ H ⟨B', sti, envi, Mi, zi, y1, y2, _⟩ => hst B' H y1 y2.bs.b) (fun i ys σ H v H2 hin ⟨B', sti, envi, Mi, zi, y1, y2, y3, y4⟩ yl => ?_) (fun ys σ H ⟨B', sti, envi, Mi, zi, y1, y2, y3, y4⟩ => ?_)
        · obtain ⟨rfl, hv⟩ := hy i B' H v H2 y1 y2.bs.b yl
          obtain ⟨d, hd, pv⟩ := rx.getV hv
          have hdr : ds.drop i = d :: ds.drop (i + 1) := List.drop_eq_getElem_cons (List.getElem?_eq_some_iff.mp hd).1 |>.trans (by rw [(List.getElem?_eq_some_iff.mp hd).2])
          rw [hdr] at y4
          unfold forY at y4
          cases e5 : sgD j d envi with
          | none =>
            simp only [e5] at y4
            cases y4
          | some env1 =>
            simp only [e5] at y4
            refine ⟨sti, B', Mi, F, envi, d, env1, y2, pv.mono y1, e5, fun σ2 r3 => ?_⟩
            cases e6 : evGs Γ.cl gb zi env1 sti with
            | none =>
              rw [e6] at y4
              cases y4
            | some o1 =>
              obtain ⟨ys1, env2, st2⟩ := o1
              rw [e6] at y4
              exact ⟨sti, B', Mi, F, env1, zi, _, r3, y3, e6, fun xs B3 M3 σ3 H3 x5 r5 q5 => ⟨B3, st2, env2, M3, ys1, y1.trans x5, r5, q5, y4⟩⟩
        · rw [← rx.length.symm, List.drop_length] at y4
          unfold forY at y4
          cases y4
          exact k ys B' Mi σ H (x1.trans y1) y2 y3
      rcases itD_lst e2 with rfl | rfl
      · refine .inl (.inl ⟨st, B, M, F, env, _, _, r, e1, fun v B1 H1 x1 r1 p1 => ?_⟩)
        cases p1 with
        | @lst a xs _ hx rx =>
          have hq : ∀ B' H', Ex B1 B' → Ex B' H' → SqL Γ.K H' a xs := fun B' H' y1 y2 => Or.inl (Or.inl (y2 _ _ (y1 _ _ hx)))
          refine ⟨a, rfl, ⟨xs, Or.inl (Or.inl (r1.bs.b _ _ hx))⟩, main (Itl Γ.K a) B1 H1 xs x1 r1 rx (fun i B' H' y1 y2 hin => ⟨xs, _, hq B' H' y1 y2, List.getElem?_eq_getElem hin⟩) (fun B' H' y1 y2 => ⟨xs, hq B' H' y1 y2, Nat.le_refl _⟩) fun i B' H' v H2 y1 y2 yl => ⟨yl.1, yl.2 xs (hq B' H' y1 y2)⟩⟩
      · refine .inl (.inr ⟨st, B, M, F, env, _, _, r, e1, fun v B1 H1 x1 r1 p1 => ?_⟩)
        cases p1 with
        | @tup a xs _ hx rx =>
          have hq : ∀ B' H', Ex B1 B' → Ex B' H' → SqT Γ.K H' a xs := fun B' H' y1 y2 => sqt_mono (y1.trans y2) hx
          refine ⟨a, rfl, ⟨xs, sqt_mono r1.bs.b hx⟩, main (Itt Γ.K a) B1 H1 xs x1 r1 rx (fun i B' H' y1 y2 hin => ⟨xs, _, hq B' H' y1 y2, List.getElem?_eq_getElem hin⟩) (fun B' H' y1 y2 => ⟨xs, hq B' H' y1 y2, Nat.le_refl _⟩) fun i B' H' v H2 y1 y2 yl => ⟨yl.1, yl.2 xs (hq B' H' y1 y2)⟩⟩
end
section
variable {P : Program} {w : World} {K : PySem.W.Frag} {mg : Str → Option Value} {base : Heap}
theorem gy_ok {xn qual : Str} {params : Arguments} {body : List Stmt} {scope : Scope} {f : Addr} {fd : FuncData} {N ps : List Str} {k : Nat} {Γ : Gam} {G : GF} {cl : Cl} {g : Str} {dvs : List V} {kws : List (Str × V)}
    (F : FunD K xn qual params body scope dvs kws f fd) (S : GScope N ps scope)
    (hh : Γ.hot = false) (hK : Γ.K = K) (hN : Γ.N = N) (hsc : Γ.sc = scope) (hb : SGns Γ body G.body) (hn : G.n = N.length)
    (hcl : ∀ as st d st', cl g as st = some (d, st') → as.length = ps.length ∧ runG Γ.cl G as st = some (d, st')) (a : Av P w K mg base k Γ) (hio : Γ.io = none := by rfl) (hfr : Γ.fr = false := by rfl) : GFn P w K mg base (k + 1) f fd ps (spL K cl g) := by
  obtain ⟨oc, od, dV, kV, doc, pm, an, cdv, ct, osl, rfl, lk, hcd, _, _⟩ := F.ex
  refine gfn_of lk hcd S (fun vs H Q E h => ?_) (fun A outer s H vs Q E pn hr h => ?_)
  · obtain ⟨p, st, B, F, as, out, st', _, _, ha, he, _⟩ := h
    rw [ha.length, (hcl _ _ _ _ he).1]
  · obtain ⟨p, st, B, Fz, as, out, st', hl, w1, ha, he, kk⟩ := h
    have co : Γ.sc.isCoroutine = false := by rw [hsc]; exact S.co
    have ok := a.oksG (p := p) (A := A) (outer := outer) (s := s) (H := H) (E := E) (pn := pn) (qual := qual) (f := f) (cdv := cdv) hh hK hN S.nd hsc hl.lk (by rw [hl.io, hio]; rfl) (hl.fr.trans hfr.symm) hl.tb hr
    refine ⟨_, hb _ p ok ⟨by rw [ok.sc]; exact co, by show interactive (PyProof.Rows.envOfC qual scope s.heap.objs.size f cdv) = false; unfold interactive; simp [PyProof.Rows.envOfC, S.kind]⟩, ?_⟩
    have hr2 := (hcl _ _ _ _ he).2
    unfold runG at hr2
    rw [hn] at hr2
    cases e3 : evGs Γ.cl G.body [] (as.map slOf ++ List.replicate (N.length - as.length) .no) st with
    | none =>
      rw [e3] at hr2
      cases hr2
    | some r =>
      obtain ⟨ys, env1, st3⟩ := r
      rw [e3] at hr2
      cases hr2
      exact ⟨st, B, fun _ => none, Fz, _, [], _, by rw [hK]; exact rel_start w1 ha, .nil, e3, fun xs B' M' σ' H' x r pv => kk xs B' H' x r.bs (by rw [← hK]; exact pv)⟩
theorem foy_step {k : Nat} {f : Str} {st : Stmt} {N ps : List Str} {Γ : Gam} {G : GF} {cl : Cl} (h : Hv K mg f st ps) (S : GScope N ps (defScope st)) (hh : Γ.hot = false) (hK : Γ.K = K) (hN : Γ.N = N) (hsc : Γ.sc = defScope st) (hb : SGns Γ (defBody st) G.body)
    (hn : G.n = N.length) (hcl : ∀ as s, cl f as s = runGI ps.length Γ.cl G as s) (a : Av P w K mg base k Γ) (hio : Γ.io = none := by rfl) (hfr : Γ.fr = false := by rfl) : FoL P w K mg base (k + 4) cl f := by
  obtain ⟨fa, fd, dvs, F, hm, hbn⟩ := h
  have hcl' : ∀ as s d s', cl f as s = some (d, s') → as.length = ps.length ∧ runG Γ.cl G as s = some (d, s') := fun as s d s' e => by
    rw [hcl] at e
    exact runGI_of e
  refine ⟨fa, fd, ps, k + 1, Nat.le_refl _, gy_ok F S hh hK hN hsc hb hn hcl' a hio hfr, hm, F.kp, hbn, fun as s d s' e => ?_⟩
  have hr := (hcl' _ _ _ _ e).2
  unfold runG at hr
  split at hr
  · cases hr
    exact ⟨_, rfl⟩
  · cases hr
theorem FoG.up {j k : Nat} {es : List (Str × Str)} {cl : Cl} {f : Str} (h : FoG P w K mg base j es cl f) (l : j ≤ k) : FoG P w K mg base k es cl f := by
  obtain ⟨fa, fd, ps, F, q⟩ := h
  exact ⟨fa, fd, ps, F.mono l, q⟩
theorem FoH.up {j k : Nat} {cl : Cl} {f : Str} (h : FoH P w K mg base j cl f) (l : j ≤ k) : FoH P w K mg base k cl f := by
  obtain ⟨fa, fd, ps, F, q⟩ := h
  exact ⟨fa, fd, ps, ⟨F.len, fun A outer s H args us vs Q E p hr => F.run A outer s H args us vs Q E p (hr.mono l)⟩, q⟩
end
end Ip

set_option Elab.async false
set_option linter.all false
set_option maxRecDepth 100000
set_option maxHeartbeats 4000000
/-! Own lists that a callee changes; new lists that a callee returns; x[k] = e; list * int. -/
namespace Ip
open PySem L2
section
variable {K : PySem.W.Frag} {p : Pa} {st st' : Pl} {B B' M F : Hp} {env env' : List Sl} {σ σ' : L2.St} {H H' : Hp} {a : Addr} {o : HO}
theorem EnR.grow (r : EnR K p B M env σ) {i : Nat} {xs ys : List V} {ds es : List D} (he : env[i]? = some (.ow ds)) (hs : σ[i]? = some (some (.ref a))) (hm : M a = some (.lst xs)) (ry : RpA K B ys es) :
    EnR K p B (upd M a (.lst ys)) (env.set i (.ow es)) σ where
  len := by rw [List.length_set]; exact r.len
  at_ := fun k s hk => by
    by_cases e : i = k
    · subst e
      have hl : i < env.length := (List.getElem?_eq_some_iff.mp he).1
      rw [List.getElem?_set_self hl] at hk
      cases hk
      exact ⟨_, hs, ys, upd_same, ry⟩
    · rw [List.getElem?_set_ne e] at hk
      obtain ⟨w, h1, h2⟩ := r.at_ k s hk
      refine ⟨w, h1, ?_⟩
      cases s with
      | ow fs =>
        cases w with
        | none => exact h2
        | some v =>
          cases v with
          | ref b =>
            obtain ⟨zs, h3, h4⟩ := h2
            have hba : b ≠ a := fun z => by
              subst z
              exact e (r.ap i k ds fs b he hk hs h1)
            exact ⟨zs, by rw [upd_ne hba]; exact h3, h4⟩
          | _ => exact h2
      | no => exact h2
      | im d =>
        cases w with
        | none => exact h2
        | some v => exact h2
      | pl =>
        cases w with
        | none => exact h2
        | some v => cases v <;> exact h2
      | er c d => exact h2
      | ce k =>
        cases w with
        | none => exact h2
        | some v => cases v <;> exact h2
  ap := fun k l es' fs b hk hl sk sl => by
    have old : ∀ {k : Nat} {es' : List D}, (env.set i (.ow es))[k]? = some (.ow es') → ∃ fs, env[k]? = some (.ow fs) := fun {k es'} hk => by
      by_cases e : i = k
      · subst e
        exact ⟨ds, he⟩
      · rw [List.getElem?_set_ne e] at hk
        exact ⟨_, hk⟩
    obtain ⟨f1, h1⟩ := old hk
    obtain ⟨f2, h2⟩ := old hl
    exact r.ap k l f1 f2 b h1 h2 sk sl
  io := fun k c es' hp hk => by
    by_cases e : i = k
    · subst e
      exact r.io i c ds hp he
    · rw [List.getElem?_set_ne e] at hk
      exact r.io k c es' hp hk
/-- what is left alone but for one own list -/
def lessM (M : Hp) (a : Addr) : Hp := fun b => if b = a then none else M b
theorem less_ne {b : Addr} (h : b ≠ a) : lessM M a b = M b := by
  unfold lessM
  rw [if_neg h]
theorem less_same : lessM M a a = none := by
  unfold lessM
  rw [if_pos rfl]
theorem less_of {b : Addr} {u : HO} (h : lessM M a b = some u) : b ≠ a ∧ M b = some u := by
  by_cases e : b = a
  · rw [e, less_same] at h
    cases h
  · rw [less_ne e] at h
    exact ⟨e, h⟩
theorem Rel.callI (r : Rel K p st B M F env σ H) {xs : List V} (hm : M a = some (.lst xs)) : Bs p st B (uni (lessM M a) F) H where
  b := r.bs.b
  f := fun c o h => by
    rcases uni_cases h with h | ⟨_, h⟩
    · exact r.m c o (less_of h).2
    · exact r.bs.f c o h
  d := fun c o h => by
    rcases uni_cases h with h | ⟨_, h⟩
    · exact (r.md c o (less_of h).2).1
    · exact r.bs.d c o h
  pf := by
    cases e : uni (lessM M a) F p with
    | none => rfl
    | some o =>
      rcases uni_cases e with h | ⟨_, h⟩
      · exact absurd rfl (r.md p o (less_of h).2).2.2
      · rw [r.bs.pf] at h
        cases h
  pb := r.bs.pb
  pl := r.bs.pl
  ce := r.bs.ce.up (fun k c hk => ⟨(r.bs.ce.b k c hk).1, by
    have z : lessM M a c = none := by
      unfold lessM
      split
      · rfl
      · exact r.mc k c hk
    rw [uni_r z]
    exact (r.bs.ce.b k c hk).2.1⟩) (fun _ _ _ => rfl) (fun q hq => ⟨(r.bs.ce.tn q hq).1, by
    have z : lessM M a q.1 = none := by
      unfold lessM
      split
      · rfl
      · exact r.mt q hq
    rw [uni_r z]
    exact (r.bs.ce.tn q hq).2⟩) fun z => z
theorem Rel.uniI (r : Rel K p st B M F env σ H) {xs : List V} (hm : M a = some (.lst xs)) : uni (lessM M a) F a = none := by
  rw [uni_r less_same]
  exact (r.md a _ hm).2.1
theorem Rel.backI (r : Rel K p st B M F env σ H) {i : Nat} {xs ys : List V} {ds es : List D} (he : env[i]? = some (.ow ds)) (hs : σ[i]? = some (some (.ref a))) (hm : M a = some (.lst xs)) (e : Ex B B') (w : Bs p st' B' (uni (lessM M a) F) H') (hb : B' a = none) (ha : H' a = some (.lst ys)) (ry : RpA K B' ys es) :
    Rel K p st' B' (upd M a (.lst ys)) F (env.set i (.ow es)) σ H' where
  bs := by
    have sub : ∀ c o, F c = some o → uni (lessM M a) F c = some o := fun c o h => by
      cases e1 : lessM M a c with
      | none => rw [uni_r e1]; exact h
      | some u =>
        have := (r.md c u (less_of e1).2).2.1
        rw [this] at h
        cases h
    exact ⟨w.b, fun c o h => w.f c o (sub c o h), fun c o h => w.d c o (sub c o h), r.bs.pf, w.pb, w.pl, w.ce.up (fun k c hk => ⟨(w.ce.b k c hk).1, (r.bs.ce.b k c hk).2.1⟩) (fun _ _ _ => rfl) (fun q hq => ⟨(w.ce.tn q hq).1, (r.bs.ce.tn q hq).2⟩) fun z => z⟩
  mc := fun k c hk => by
    rw [upd_ne (fun e => by
      have := r.mc k c hk
      rw [e, hm] at this
      cases this)]
    exact r.mc k c hk
  mt := fun q hq => by
    rw [upd_ne (r.mtn hm q hq)]
    exact r.mt q hq
  m := fun c o h => by
    by_cases hc : c = a
    · subst hc
      rw [upd_same] at h
      rw [← h]
      exact ha
    · rw [upd_ne hc] at h
      exact w.f c o (uni_l (by rw [less_ne hc]; exact h))
  md := fun c o h => by
    by_cases hc : c = a
    · subst hc
      exact ⟨hb, (r.md c _ hm).2⟩
    · rw [upd_ne hc] at h
      exact ⟨w.d c o (uni_l (by rw [less_ne hc]; exact h)), (r.md c o h).2⟩
  en := (r.en.mono e).grow he hs hm ry
/-- the address of an own list -/
theorem Rel.own (r : Rel K p st B M F env σ H) {i : Nat} {ds : List D} (he : env[i]? = some (.ow ds)) : ∃ a xs, σ[i]? = some (some (.ref a)) ∧ M a = some (.lst xs) ∧ RpA K B xs ds := by
  obtain ⟨w, h1, h2⟩ := r.en.at_ i _ he
  cases w with
  | none => exact h2.elim
  | some v =>
    cases v with
    | ref a =>
      obtain ⟨xs, h3, h4⟩ := h2
      exact ⟨a, xs, h1, h3, h4⟩
    | _ => exact h2.elim
end
/-- arguments, the last one an own list -/
def Tgi (K : PySem.W.Frag) (cl : Cl) (p : Pa) (es : IEs) (i : Nat) : TA := fun σ H Q => ∃ st B M F env ds st' xs, Rel K p st B M F env σ H ∧ ag cl es env st = some (ds, st') ∧ env[i]? = some (.ow xs) ∧
  ∀ us B' H' a, Ex B B' → Rel K p st' B' M F env σ H' → ArA K p B' us ds → σ[i]? = some (some (.ref a)) → Q (us ++ [.ref a]) H'
def SGI (Γ : Gam) (es : List Expr) (i : IEs) (n : Nat) : Prop := ∀ X p, Oks Γ X p → PA X es (Tgi Γ.K Γ.cl p i n)
section
variable {Γ : Gam} {e a b c : Expr} {es rest : List Expr} {ia ib ic i : IE} {ies : IEs} {pos p0 p1 p2 : Pos} {x f : Str} {n : Nat}
theorem sgi_last {y : Str} (hN : Γ.N[n]? = some y := by rfl) (hv : Vis Γ.sc y := by first | exact Or.inl rfl | exact Or.inr (Or.inl rfl) | exact Or.inr (Or.inr rfl)) (hd : (y == ("__debug__" : Str)) = false := by decide) (hcd : (y == ("__classdict__" : Str)) = false := by decide)
    (hs : ∀ env, starEach [.Name y pos] env = (false, eval (.Name y pos) env) :: starEach [] env := by intro _; rfl) : SGI Γ [.Name y pos] .nil n := fun X p o =>
  PA_weak (pa_cons (pe_var (i := n) (by rw [o.N]; exact hN) (by rw [o.sc]; exact hv) hd hcd) pa_nil (hs _)) fun σ H Q q => by
  obtain ⟨st, B, M, F, env, ds, st', xs, r, he, hx, k⟩ := q
  unfold ag at he
  cases he
  obtain ⟨a, zs, h1, h2, h3⟩ := r.own hx
  exact ⟨_, h1, k [] B H a (Ex.refl B) r .nil h1⟩
theorem sgi_cons (he : SE Γ e i) (hr : SGI Γ es ies n) (hs : ∀ env, starEach (e :: es) env = (false, eval e env) :: starEach es env := by intro _; rfl) : SGI Γ (e :: es) (.cons i ies) n := fun X p o => PA_weak (pa_cons (he X p o.toOkx) (hr X p o) (hs _)) fun σ H Q q => by
  obtain ⟨st, B, M, F, env, ds, st', xs, r, he, hx, k⟩ := q
  unfold ag at he
  cases e1 : ev Γ.cl i env st with
  | none =>
    rw [e1] at he
    cases he
  | some zs =>
    obtain ⟨x, st1⟩ := zs
    rw [e1] at he
    cases e2 : ag Γ.cl ies env st1 with
    | none =>
      simp only [e2] at he
      cases he
    | some ys =>
      obtain ⟨ys, st2⟩ := ys
      simp only [e2] at he
      cases he
      exact ⟨st, B, M, F, env, x, st1, r, e1, fun v B1 H1 x1 r1 p1 => ⟨st1, B1, M, F, env, ys, _, xs, r1, e2, hx, fun us B2 H2 a x2 r2 p2 ha => k (v :: us) B2 H2 a (x1.trans x2) r2 (.cons (p1.mono x2) p2) ha⟩⟩
theorem sgi_pool (m : Nat) {y : Str} (hr : SGI Γ es ies n) (hN : Γ.N[m]? = some y := by rfl) (hv : Vis Γ.sc y := by first | exact Or.inl rfl | exact Or.inr (Or.inl rfl) | exact Or.inr (Or.inr rfl)) (hd : (y == ("__debug__" : Str)) = false := by decide) (hcd : (y == ("__classdict__" : Str)) = false := by decide)
    (hs : ∀ env, starEach (.Name y pos :: es) env = (false, eval (.Name y pos) env) :: starEach es env := by intro _; rfl) : SGI Γ (.Name y pos :: es) (.pool m ies) n := fun X p o =>
  PA_weak (pa_cons (pe_var (i := m) (by rw [o.N]; exact hN) (by rw [o.sc]; exact hv) hd hcd) (hr X p o) (hs _)) fun σ H Q q => by
  obtain ⟨st, B, M, F, env, ds, st', xs, r, he, hx, k⟩ := q
  unfold ag at he
  split at he
  · rename_i e1
    cases e2 : ag Γ.cl ies env st with
    | none =>
      simp only [e2] at he
      cases he
    | some ys =>
      obtain ⟨ys, st2⟩ := ys
      simp only [e2] at he
      cases he
      obtain ⟨ov, h1, h2⟩ := r.en.at_ m _ e1
      cases ov with
      | none => exact h2.elim
      | some v =>
        cases v with
        | ref q =>
          obtain rfl : q = p := h2
          exact ⟨_, h1, st, B, M, F, env, ys, _, xs, r, e2, hx, fun us B2 H2 a x2 r2 p2 ha => k (.ref p.a :: us) B2 H2 a x2 r2 (.pool p2) ha⟩
        | _ => exact h2.elim
  · cases he
theorem ss_dropc (h : SGI Γ (e :: es) ies n) (hh : Γ.hot = false := by rfl) (hf : Γ.fi.contains x = true := by rfl) (hg : GlS Γ.sc x := by rfl) (hdb : (x == ("__debug__" : Str)) = false := by decide)
    (he : ∀ env, starEach (e :: es) env = (false, eval e env) :: starEach es env := by intro _; rfl) (hpl : ∀ env, (backTo p1 (starEach es env)).any (·.1) = false := by intro _; rfl) (hs : ∀ env, swapsWith (.Call (.Name x p0) (e :: es) [] p1) none pos.line env = pure false := by intro _; rfl) :
    SS Γ (.Expr (.Call (.Name x p0) (e :: es) [] p1) pos) (.dropc x ies n) := fun X p o => by
  obtain ⟨fa, fd, ps, k, F, hm, hk, hb, hr⟩ := o.fi hh x (List.contains_iff_mem.mp hf)
  refine PS_weak (ps_expr (pe_call F hr (o.gl hg) hm hk hb .nil passN (h X p o) hdb (he _) (hpl _)) (hs _)) fun D σ H q => ?_
  obtain ⟨st, B, M, F0, env, out, r, he, kk⟩ := q
  unfold evS at he
  split at he
  · rename_i ds st1 e1
    split at he
    · rename_i xs hx
      split at he
      · rename_i ot st2 e2
        cases he
        refine ⟨st, B, M, F0, env, ds, st1, xs, r, e1, hx, fun us B1 H1 a x1 r1 p1 ha => ?_⟩
        obtain ⟨a', zs, h1, h2, h3⟩ := r1.own hx
        have : a' = a := by
          rw [ha] at h1
          cases h1
          rfl
        subst this
        obtain ⟨g1, g2, g3⟩ := r1.md _ _ h2
        show spI Γ.K Γ.cl x ((us ++ [.ref a']) ++ []) H1 _ E0
        rw [List.append_nil]
        exact ⟨p.o, st1, B1, uni (lessM M a') F0, ds, us, a', zs, xs, ot, st2, ⟨rfl, rfl, rfl, o.tb⟩, (r1.callI h2).o, rfl, p1.o, r1.m _ _ h2, g1, r1.uniI h2, ⟨g3, (fun k hk => by
          have := r1.mc k _ hk
          rw [h2] at this
          cases this), r1.mtn h2⟩, h3, e2, fun B' H' ys x2 w hb' ha' ry =>
          kk B' _ σ H' (x1.trans x2) (r1.backI hx ha h2 x2 w.u hb' ha' ry)⟩
      · cases he
    · cases he
  · cases he
/-- x = f(..), a new list or None -/
theorem ss_setf (j : Nat) (h : SG Γ (e :: es) ies) (hio : (Γ.io == some j) = false := by rfl) (hh : Γ.hot = false := by rfl) (hf : Γ.ff.contains f = true := by rfl) (hg : GlS Γ.sc f := by rfl) (hdb : (f == ("__debug__" : Str)) = false := by decide)
    (he : ∀ env, starEach (e :: es) env = (false, eval e env) :: starEach es env := by intro _; rfl) (hpl : ∀ env, (backTo p1 (starEach es env)).any (·.1) = false := by intro _; rfl)
    (hN : Γ.N[j]? = some x := by rfl) (hl : Loc Γ.sc x := by first | exact Or.inl rfl | exact Or.inr rfl) (hs : ∀ env, swapsWith (.Call (.Name f p2) (e :: es) [] p1) (some (.Name x p0)) pos.line env = pure false := by intro _; rfl) :
    SS Γ (.Assign [.Name x p0] (.Call (.Name f p2) (e :: es) [] p1) pos) (.setf j f ies) := fun X p o => by
  obtain ⟨fa, fd, ps, k, F, hm, hk, hb, hr⟩ := o.ff hh f (List.contains_iff_mem.mp hf)
  refine PS_weak (ps_set (i := j) (by rw [o.N]; exact o.nd) (by rw [o.N]; exact hN) (by rw [o.sc]; exact hl) (pe_call F hr (o.gl hg) hm hk hb .nil passN (h X p o.toOkx) hdb (he _) (hpl _)) (hs _) (.inl (o.fnx x))) fun D σ H q => ?_
  obtain ⟨st, B, M, F0, env, out, r, he, kk⟩ := q
  unfold evS at he
  split at he
  · rename_i ds st1 e1
    have key : ∀ (d : Ip.D) (st2 : Pl), Γ.cl f ds st1 = some (d, st2) → (∀ v B' H', Ex B B' → Rel Γ.K p st2 B' M F0 env σ H' → RtF Γ.K p B' (uni M F0) H' v d → D.nx (σ.set j (some v)) H') → tCall (spR Γ.K Γ.cl f) [] E0 (Tg Γ.K Γ.cl p ies) σ H (fun v H' => D.nx (σ.set j (some v)) H') := fun d st2 e2 g => by
      refine ⟨st, B, M, F0, env, ds, st1, r, e1, fun vs B1 H1 x1 r1 p1 => ?_⟩
      show spR Γ.K Γ.cl f (vs ++ []) H1 _ E0
      rw [List.append_nil]
      exact ⟨p.o, st1, B1, uni M F0, ds, d, st2, ⟨rfl, rfl, rfl, o.tb⟩, r1.call.o, p1.o, e2, fun v B' H' x2 w z => g v B' H' (x1.trans x2) (r1.back x2 w.u) z⟩
    split at he
    · rename_i st2 e2
      cases he
      refine key _ _ e2 fun v B' H' x1 r1 z => ?_
      rcases z with ⟨_, rfl⟩ | ⟨_, _, _, z, _⟩
      · exact kk B' M _ H' x1 (r1.set .non j)
      · cases z
    · rename_i xs st2 e2
      cases he
      refine key _ _ e2 fun v B' H' x1 r1 z => ?_
      rcases z with ⟨z, _⟩ | ⟨a, zs, es', z, rfl, h1, h2, h3, h4, h5⟩
      · cases z
      · cases z
        have hM : M a = none := by
          cases hm : M a with
          | none => rfl
          | some u => rw [uni_l hm] at h4; cases h4
        have hF : F0 a = none := by rw [uni_r hM] at h4; exact h4
        exact kk B' _ _ H' x1 (r1.setOw ⟨h3, hM, hF, h5⟩ h1 h2 j (o.noIo hio))
    · cases he
  · cases he
/-- x[k] = e, x an own list -/
theorem ss_oset (k : Nat) {j0 : Nat} {q1 q2 : Pos} (n : Nat) (h : SE Γ e i) (hN : Γ.N[n]? = some x := by rfl) (hv : Vis Γ.sc x := by first | exact Or.inl rfl | exact Or.inr (Or.inl rfl) | exact Or.inr (Or.inr rfl)) (hd : (x == ("__debug__" : Str)) = false := by decide) (hcd : (x == ("__classdict__" : Str)) = false := by decide)
    (hs : ∀ env, swapsWithSole [.Subscript (.Name x p0) (.Constant (.int (k : Int)) j0 q1) q2] e pos.line env = pure false := by intro _; rfl) (hw : ∀ env, swappedStores [.Subscript (.Name x p0) (.Constant (.int (k : Int)) j0 q1) q2] e env = pure none := by intro _; rfl)
    (h1 : ∀ env, (assignEach [.Subscript (.Name x p0) (.Constant (.int (k : Int)) j0 q1) q2] env).map (·.2) = [assign (.Subscript (.Name x p0) (.Constant (.int (k : Int)) j0 q1) q2) env] := by intro _; rfl) :
    SS Γ (.Assign [.Subscript (.Name x p0) (.Constant (.int (k : Int)) j0 q1) q2] e pos) (.oset n k i) := fun X p o =>
  PS_weak (ps_asg (h X p o.toOkx) (pg_sub (pe_var (i := n) (by rw [o.N]; exact hN) (by rw [o.sc]; exact hv) hd hcd) pe_int set_list) (hs _) (hw _) (h1 _)) fun D σ H q => by
    obtain ⟨st, B, M, F, env, out, r, he, kk⟩ := q
    unfold evS at he
    split at he
    · rename_i d st1 e1
      split at he
      · rename_i ds e2
        obtain ⟨hl, he⟩ := ite_some he
        subst he
        refine ⟨st, B, M, F, env, d, st1, r, e1, fun v B' H' x1 r' pv => ?_⟩
        obtain ⟨a, xs, g1, g2, g3⟩ := r'.own e2
        refine ⟨_, g1, a, xs, (k : Int), k, rfl, rfl, r'.m _ _ g2, ?_, ?_⟩
        · unfold ixN
          rw [if_pos (Int.natCast_nonneg k), if_pos (by rw [g3.length]; exact Int.ofNat_lt.mpr hl)]
          rfl
        · exact kk B' _ σ _ x1 (r'.grow e2 g1 g2 (g3.set k pv))
      · cases he
    · cases he
theorem rpa_rep {K : PySem.W.Frag} {B : Hp} {xs : List V} {ds : List D} (r : RpA K B xs ds) : ∀ n : Nat, RpA K B (List.replicate n xs).flatten (List.replicate n ds).flatten
  | 0 => .nil
  | n + 1 => by
    rw [List.replicate_succ, List.replicate_succ, List.flatten_cons, List.flatten_cons]
    exact r.append (rpa_rep r n)
theorem rep_se (ha : SE Γ a ia) (hb : SE Γ b ib) : SE Γ (.BinOp a .Mult b pos) (.rep ia ib) := fun X p o => PE_weak (pe_op op_rep (ha X p o) (hb X p o)) fun σ H Q q => by
  obtain ⟨st, B, M, F, env, d, st', r, he, k⟩ := q
  unfold ev at he
  split at he
  · rename_i xs st1 e1
    split at he
    · rename_i m st2 e2
      obtain ⟨⟨h1, h2, h3⟩, he⟩ := ite_some he
      cases he
      refine ⟨st, B, M, F, env, _, st1, r, e1, fun v B1 H1 x1 r1 p1 => ⟨st1, B1, M, F, env, _, _, r1, e2, fun u B2 H2 x2 r2 p2 => ?_⟩⟩
      have p1 := p1.mono x2
      cases p2
      cases p1 with
      | @lst l vs _ hx rx =>
        refine ⟨l, m, vs, rfl, rfl, r2.bs.b _ _ hx, by omega, by omega, most_line (by rw [rx.length]; exact h3), fun q hq => ?_⟩
        exact k (.ref q) _ _ ((x1.trans x2).trans (Ex.new (r2.bs.b.free hq))) (r2.new hq) (.lst upd_same ((rpa_rep rx _).mono (Ex.new (r2.bs.b.free hq))))
    · cases he
  · cases he
end
end Ip

set_option Elab.async false
set_option linter.all false
set_option maxRecDepth 100000
set_option maxHeartbeats 4000000
/-! Defs that change their last list, and defs that return a new list, in the table. -/
namespace Ip
open PySem L2
theorem Bs.re {p p' : Pa} {st : Pl} {B F H : Hp} (w : Bs p st B F H) (e1 : p'.a = p.a := by rfl) (e2 : p'.q = p.q := by rfl) (e3 : p'.ca = p.ca := by rfl) (e4 : p'.tb = p.tb := by rfl) : Bs p' st B F H := by
  obtain ⟨a, q, l, i, f, c, t⟩ := p
  obtain ⟨a', q', l', i', f', c', t'⟩ := p'
  dsimp only at e1 e2 e3 e4
  subst e1 e2 e3 e4
  exact ⟨w.b, w.f, w.d, w.pf, w.pb, w.pl, ⟨w.ce.at_, w.ce.b, w.ce.inj, w.ce.tn, w.ce.tt⟩⟩
theorem ArA.re0 {K : PySem.W.Frag} {p p' : Pa} {B : Hp} (e : p'.a = p.a) (e3 : p'.ca = p.ca) : ∀ {vs : List V} {as : List (Option D)}, ArA K p B vs as → ArA K p' B vs as
  | _, _, .nil => .nil
  | _, _, .cons h r => .cons h (ArA.re0 e e3 r)
  | _, _, .pool (vs := vs) (ds := ds) r => by
    have z : ArA K p' B (.ref p'.a :: vs) (none :: ds) := .pool (ArA.re0 e e3 r)
    rw [e] at z
    exact z
  | _, _, .cell h r => .cell (by rw [e3]; exact h) (ArA.re0 e e3 r)
theorem ArA.re {K : PySem.W.Frag} {p p' : Pa} {B : Hp} {vs : List V} {as : List (Option D)} (h : ArA K p B vs as) (e : p'.a = p.a := by rfl) (e3 : p'.ca = p.ca := by rfl) : ArA K p' B vs as := ArA.re0 e e3 h
def runIO (n : Nat) (cl : Cl) (I : IF) (as : List (Option D)) (st : Pl) : Option (D × Pl) := if as.length = n then runO cl I as st else none
theorem runIO_of {n : Nat} {cl : Cl} {I : IF} {as : List (Option D)} {s : Pl} {d : D} {s' : Pl} (e : runIO n cl I as s = some (d, s')) : as.length = n ∧ runO cl I as s = some (d, s') := by
  unfold runIO at e
  split at e
  · rename_i hl
    exact ⟨hl, e⟩
  · cases e
theorem runO_of {cl : Cl} {I : IF} {as : List (Option D)} {ds : List D} {s : Pl} {d : D} {s' : Pl} (e : runO cl I (as ++ [some (.list ds)]) s = some (d, s')) :
    ∃ env out, evSs cl I.body (as.map slOf ++ .ow ds :: List.replicate (I.n - (as.length + 1)) .no) s = some (.nx env s') ∧ env[as.length]? = some (.ow out) ∧ d = .list out := by
  unfold runO at e
  simp only [List.getLast?_append, List.getLast?_singleton, Option.some_or, List.dropLast_concat, List.length_append, List.length_singleton, Nat.add_sub_cancel] at e
  split at e
  · rename_i env st1 e1
    split at e
    · rename_i out e2
      cases e
      exact ⟨env, out, e1, e2, rfl⟩
    · cases e
  · cases e
theorem rel_startI {K : PySem.W.Frag} {p : Pa} {st : Pl} {B F H : Hp} {us : List V} {as : List (Option D)} {N : List Str} {a : Addr} {xs : List V} {ds : List D} (w : Bs p st B F H) (ha : ArA K p B us as) (h1 : H a = some (.lst xs)) (h2 : B a = none) (h3 : F a = none) (h4 : NotP p a) (h5 : RpA K B xs ds) (hp : p.io = some (as.length, a)) :
    Rel K p st B (upd (fun _ => none) a (.lst xs)) F (as.map slOf ++ .ow ds :: List.replicate (N.length - (as.length + 1)) .no) (L2.start N (us ++ [.ref a])) H where
  bs := w
  m := fun b o h => by
    by_cases e : b = a
    · subst e
      rw [upd_same] at h
      rw [← h]
      exact h1
    · rw [upd_ne e] at h
      cases h
  md := fun b o h => by
    by_cases e : b = a
    · subst e
      exact ⟨h2, h3, h4.1⟩
    · rw [upd_ne e] at h
      cases h
  mc := fun k c hk => by
    rw [upd_ne (fun e => h4.2.1 k (by rw [← e]; exact hk))]
  mt := fun q hq => by
    rw [upd_ne (h4.2.2 q hq)]
  en := by
    have hl := ha.length
    have key : ∀ (i : Nat) (s : Sl), (as.map slOf ++ .ow ds :: List.replicate (N.length - (as.length + 1)) .no)[i]? = some s → (i < as.length ∧ ∃ d, as[i]? = some d ∧ s = slOf d) ∨ (i = as.length ∧ s = .ow ds) ∨ (as.length < i ∧ i < as.length + 1 + (N.length - (as.length + 1)) ∧ s = .no) := fun i s hi => by
      by_cases c : i < as.length
      · rw [List.getElem?_append_left (by simpa using c), List.getElem?_map] at hi
        obtain ⟨d, g1, g2⟩ := Option.map_eq_some_iff.mp hi
        exact .inl ⟨c, d, g1, g2.symm⟩
      · rw [List.getElem?_append_right (by simpa using c), List.length_map] at hi
        by_cases c2 : i = as.length
        · subst c2
          rw [Nat.sub_self] at hi
          cases hi
          exact .inr (.inl ⟨rfl, rfl⟩)
        · obtain ⟨m, hm⟩ : ∃ m, i - as.length = m + 1 := ⟨i - as.length - 1, by omega⟩
          rw [hm, List.getElem?_cons_succ, List.getElem?_replicate] at hi
          split at hi
          · rename_i hlt
            cases hi
            exact .inr (.inr ⟨by omega, by omega, rfl⟩)
          · cases hi
    have ss : ∀ i, i < as.length → (L2.start N (us ++ [.ref a]))[i]? = us[i]?.map some := fun i c => by
      unfold L2.start
      rw [List.getElem?_append_left (by simp; omega), List.getElem?_map, List.getElem?_append_left (by omega)]
    have s2 : (L2.start N (us ++ [.ref a]))[as.length]? = some (some (.ref a)) := by
      unfold L2.start
      rw [List.getElem?_append_left (by simp; omega), List.getElem?_map, List.getElem?_append_right (by omega), ← hl, Nat.sub_self]
      rfl
    refine ⟨?_, fun i s hi => ?_, fun i j es fs b hi hj _ _ => ?_, fun i b es z hi => ?_⟩
    · unfold L2.start
      simp [hl]
    · rcases key i s hi with ⟨c, d, g1, rfl⟩ | ⟨rfl, rfl⟩ | ⟨c1, c2, rfl⟩
      · obtain ⟨v, g3, g4⟩ := ha.get g1
        refine ⟨some v, by rw [ss i c, g3]; rfl, ?_⟩
        revert g4
        generalize hs : slOf d = s0
        intro g4
        cases s0 with
        | ow ds => exact absurd hs slOf_ow
        | no => exact True.intro
        | im d => exact g4
        | pl => cases v <;> exact g4
        | ce k => cases v <;> exact g4
        | er c d => exact g4
      · exact ⟨_, s2, xs, upd_same, h5⟩
      · refine ⟨none, ?_, True.intro⟩
        unfold L2.start
        rw [List.getElem?_append_right (by simp; omega), List.getElem?_replicate, if_pos (by simp; omega)]
    · have one : ∀ {i : Nat} {es : List D}, (as.map slOf ++ .ow ds :: List.replicate (N.length - (as.length + 1)) .no)[i]? = some (.ow es) → i = as.length := fun {i es} hi => by
        rcases key _ _ hi with ⟨_, d, _, z⟩ | ⟨z, _⟩ | ⟨_, _, z⟩
        · exact absurd z.symm slOf_ow
        · exact z
        · cases z
      rw [one hi, one hj]
    · rw [hp] at z
      cases z
      exact s2
section
variable {P : Program} {w : World} {K : PySem.W.Frag} {mg : Str → Option Value} {base : Heap}
theorem foi_zero {k : Nat} {f : Str} {st : Stmt} {ps : List Str} (h : Hv K mg f st ps) : FoI P w K mg base k noCl f := by
  obtain ⟨fa, fd, dvs, F, hm, hb⟩ := h
  have no : ∀ vs H Q E, ¬ spI K noCl f vs H Q E := fun vs H Q E q => by
    obtain ⟨_, _, _, _, _, _, _, _, _, _, _, _, _, _, _, _, _, _, _, _, e, _⟩ := q
    cases e
  exact ⟨fa, fd, ps, ⟨fun vs H Q E q => (no _ _ _ _ q).elim, fun A outer s H args us vs Q E _ _ _ _ q => (no _ _ _ _ q).elim⟩, hm, F.kp, hb⟩
theorem for_zero {k : Nat} {f : Str} {st : Stmt} {ps : List Str} (h : Hv K mg f st ps) : FoR P w K mg base k noCl f := by
  obtain ⟨fa, fd, dvs, F, hm, hb⟩ := h
  have no : ∀ vs H Q E, ¬ spR K noCl f vs H Q E := fun vs H Q E q => by
    obtain ⟨_, _, _, _, _, _, _, _, _, _, e, _⟩ := q
    cases e
  exact ⟨fa, fd, ps, ⟨fun vs H Q E q => (no _ _ _ _ q).elim, fun A outer s H args us vs Q E _ _ _ _ q => (no _ _ _ _ q).elim⟩, hm, F.kp, hb⟩
theorem FoI.up {j k : Nat} {cl : Cl} {f : Str} (h : FoI P w K mg base j cl f) (l : j ≤ k) : FoI P w K mg base k cl f := by
  obtain ⟨fa, fd, ps, F, q⟩ := h
  exact ⟨fa, fd, ps, F.mono l, q⟩
theorem FoR.up {j k : Nat} {cl : Cl} {f : Str} (h : FoR P w K mg base j cl f) (l : j ≤ k) : FoR P w K mg base k cl f := by
  obtain ⟨fa, fd, ps, F, q⟩ := h
  exact ⟨fa, fd, ps, F.mono l, q⟩
/-- a new list may become known -/
theorem FoR.fo {k : Nat} {cl : Cl} {f : Str} (h : FoR P w K mg base k cl f) : Fo P w K mg base k cl f := by
  obtain ⟨fa, fd, ps, F, q⟩ := h
  have up : ∀ vs H Q E, spF K cl f vs H Q E → spR K cl f vs H Q E := fun vs H Q E s => by
    obtain ⟨p, st, B, F0, as, d, st', hs, w1, ha, he, kk⟩ := s
    refine ⟨p, st, B, F0, as, d, st', hs, w1, ha, he, fun v B' H' x w2 z => ?_⟩
    rcases z with ⟨rfl, rfl⟩ | ⟨a, xs, ds, rfl, rfl, h1, h2, h3, h4, h5⟩
    · exact kk .non B' H' x w2 .non
    · have e : Ex B' (upd B' a (.lst xs)) := Ex.new h3
      refine kk (.ref a) (upd B' a (.lst xs)) H' (x.trans e) ⟨fun c u g => ?_, w2.f, fun c u g => ?_, w2.pf, ?_, ⟨w2.pl.1, e _ _ w2.pl.2⟩, w2.ce.up (fun k c hk => ⟨by rw [upd_ne (fun z => h5.2.1 k (by rw [← z]; exact hk))]; exact (w2.ce.b k c hk).1, (w2.ce.b k c hk).2.1⟩) (fun _ _ _ => rfl) (fun q hq => ⟨by rw [upd_ne (h5.2.2 q hq)]; exact (w2.ce.tn q hq).1, (w2.ce.tn q hq).2⟩) fun z => z⟩ (.lst upd_same (h2.mono e))
      · by_cases hc : c = a
        · subst hc
          rw [upd_same] at g
          rw [← g]
          exact h1
        · rw [upd_ne hc] at g
          exact w2.b c u g
      · rw [upd_ne (ne_of_none g h4)]
        exact w2.d c u g
      · rw [upd_ne (fun e => h5.1 e.symm)]
        exact w2.pb
  exact ⟨fa, fd, ps, ⟨fun vs H Q E s => F.len vs H Q E (up _ _ _ _ s), fun A outer s H args us vs Q E hr e0 hb hv hs => F.run A outer s H args us vs Q E hr e0 hb hv (up _ _ _ _ hs)⟩, q⟩
theorem foi_step {k : Nat} {f : Str} {st : Stmt} {N ps : List Str} {Γ : Gam} {I : IF} {cl : Cl} (h : Hv K mg f st ps) (S : FnScope N ps (defScope st)) (hh : Γ.hot = false) (hK : Γ.K = K) (hN : Γ.N = N) (hsc : Γ.sc = defScope st) (hb : SSs Γ (defBody st) I.body) (hn : I.n = N.length)
    (hcl : ∀ as s, cl (ioN f) as s = runIO ps.length Γ.cl I as s) (a : Av P w K mg base k Γ) (hio : Γ.io = some (ps.length - 1) := by rfl) (hfr : Γ.fr = false := by rfl) : FoI P w K mg base (k + 1) cl f := by
  obtain ⟨fa, fd, dvs, F, hm, hbn⟩ := h
  refine ⟨fa, fd, ps, F.ok S (fun vs H Q E h => ?_) (fun cdv A outer s H vs Q E hr h => ?_), hm, F.kp, hbn⟩
  · obtain ⟨p, st, B, F, as, us, a, xs, ds, out, st', _, _, rfl, ha, _, _, _, _, _, he, _⟩ := h
    rw [hcl] at he
    have hl := (runIO_of he).1
    rw [List.length_append] at hl ⊢
    rw [ha.length]
    exact hl
  · obtain ⟨p, st, B, F0, as, us, c, xs, ds, out, st', hs, w1, rfl, ha, h1, h2, h3, h4, h5, he, kk⟩ := h
    rw [hcl] at he
    obtain ⟨hl, he⟩ := runIO_of he
    obtain ⟨env, out', e1, e2, e3⟩ := runO_of he
    cases e3
    have hl' : as.length + 1 = ps.length := by rw [← hl, List.length_append]; rfl
    refine ⟨_, hb _ ⟨p.a, p.q, noLk, some (as.length, c), false, p.ca, p.tb⟩ (a.oks hh hK hN S.nd hsc rfl (by rw [hio, ← hl']; rfl) hfr.symm hs.tb hr), ?_⟩
    rw [hK]
    rw [hn] at e1
    refine ⟨st, B, _, F0, _, _, rel_startI (w1.re) ha.re h1 h2 h3 h4 h5 rfl, e1, fun B' M' σ' H' x r => ?_⟩
    obtain ⟨c', ys, g1, g2, g3⟩ := r.own e2
    have g4 := r.en.io as.length c out rfl e2
    rw [g4] at g1
    cases g1
    exact kk B' H' ys x (r.bs.re) (r.md _ _ g2).1 (r.m _ _ g2) g3
theorem for_step {k : Nat} {f : Str} {st : Stmt} {N ps : List Str} {Γ : Gam} {I : IF} {cl : Cl} (h : Hv K mg f st ps) (S : FnScope N ps (defScope st)) (hh : Γ.hot = false) (hK : Γ.K = K) (hN : Γ.N = N) (hsc : Γ.sc = defScope st) (hb : SSs Γ (defBody st) I.body) (hn : I.n = N.length)
    (hcl : ∀ as s, cl f as s = runI ps.length Γ.cl I as s) (a : Av P w K mg base k Γ) (hio : Γ.io = none := by rfl) (hfr : Γ.fr = true := by rfl) : FoR P w K mg base (k + 1) cl f := by
  obtain ⟨fa, fd, dvs, F, hm, hbn⟩ := h
  refine ⟨fa, fd, ps, F.ok S (fun vs H Q E h => ?_) (fun cdv A outer s H vs Q E hr h => ?_), hm, F.kp, hbn⟩
  · obtain ⟨p, st, B, F, as, d, st', _, _, ha, he, _⟩ := h
    rw [hcl] at he
    rw [ha.length, (runI_of he).1]
  · obtain ⟨p, st, B, F0, as, d, st', hs, w1, ha, he, kk⟩ := h
    rw [hcl] at he
    have hrun := (runI_of he).2
    refine ⟨_, hb _ ⟨p.a, p.q, noLk, none, true, p.ca, p.tb⟩ (a.oks hh hK hN S.nd hsc rfl (by rw [hio]; rfl) hfr.symm hs.tb hr), ?_⟩
    rw [hK]
    refine ⟨st, B, fun _ => none, F0, as.map slOf ++ List.replicate (N.length - as.length) .no, ?_⟩
    unfold runF at hrun
    rw [hn] at hrun
    cases e1 : evSs Γ.cl I.body (as.map slOf ++ List.replicate (N.length - as.length) .no) st with
    | none =>
      rw [e1] at hrun
      cases hrun
    | some o =>
      rw [e1] at hrun
      cases o with
      | rt d2 st2 =>
        cases hrun
        exact ⟨_, rel_start (w1.re) ha.re, rfl, fun v B' H' x r pv => kk v B' H' x (Bs.re r) pv⟩
      | nx env2 st2 =>
        cases hrun
        exact ⟨_, rel_start (w1.re) ha.re, rfl, fun B' M' σ' H' x r => kk .non B' H' x (r.bs.re) (.inl ⟨rfl, rfl⟩)⟩
      | bk env2 st2 => cases hrun
      | ct env2 st2 => cases hrun
end
end Ip

set_option Elab.async false
set_option linter.all false
set_option maxRecDepth 100000
set_option maxHeartbeats 4000000
/-! Lists that are handed about: one of them changes. -/
namespace Ip
open PySem L2
section
variable {K : PySem.W.Frag} {p : Pa} {st : Pl} {B M F : Hp} {env : List Sl} {σ : L2.St} {H : Hp}
theorem Rel.cput (r : Rel K p st B M F env σ H) {k : Nat} {a : Addr} (hk : p.ca k = some a) {ys : List V} {es : List D} (ry : RcA (lowc p.ca k) ys es) : Rel K p { st with cs := st.cs.set k es } B M F env σ (upd H a (.lst ys)) where
  bs := by
    obtain ⟨h1, h2, h3⟩ := r.bs.ce.b k a hk
    obtain ⟨xs, ds, h4, h5, _⟩ := r.bs.ce.at_ k a hk
    have hl : k < st.cs.length := (List.getElem?_eq_some_iff.mp h4).1
    refine ⟨r.bs.b.right h1, r.bs.f.right h2, r.bs.d, r.bs.pf, r.bs.pb, ?_, ⟨fun j c hj => ?_, r.bs.ce.b, r.bs.ce.inj, r.bs.ce.tn, tabs_lst r.bs.ce.tt h5⟩⟩
    · obtain ⟨h6, h7⟩ := r.bs.pl
      exact ⟨by rw [upd_ne (fun e => h3 e.symm)]; exact h6, h7⟩
    · by_cases e : j = k
      · subst e
        rw [hk] at hj
        cases hj
        exact ⟨ys, es, List.getElem?_set_self hl, upd_same, ry⟩
      · have hc : c ≠ a := fun z => by
          rw [z] at hj
          exact e (r.bs.ce.inj j k a hj hk)
        obtain ⟨zs, fs, h8, h9, h10⟩ := r.bs.ce.at_ j c hj
        exact ⟨zs, fs, by rw [List.getElem?_set_ne (fun z => e z.symm)]; exact h8, by rw [upd_ne hc]; exact h9, h10⟩
  m := r.m.right (r.mc k a hk)
  md := r.md
  mc := r.mc
  mt := r.mt
  en := r.en
/-- what a slot says of such a list -/
theorem Rel.cell (r : Rel K p st B M F env σ H) {i k : Nat} (he : env[i]? = some (.ce k)) : ∃ a xs ds, σ[i]? = some (some (.ref a)) ∧ p.ca k = some a ∧ st.cs[k]? = some ds ∧ H a = some (.lst xs) ∧ RcA (lowc p.ca k) xs ds := by
  obtain ⟨w, h1, h2⟩ := r.en.at_ i _ he
  cases w with
  | none => exact h2.elim
  | some v =>
    cases v with
    | ref a =>
      have hk : p.ca k = some a := h2
      obtain ⟨xs, ds, h3, h4, h5⟩ := r.bs.ce.at_ k a hk
      exact ⟨a, xs, ds, h1, hk, h3, h4, h5⟩
    | _ => exact h2.elim
theorem RcA.set {ca : Nat → Option Addr} {v : V} {d : D} (k : RcV ca v d) : ∀ {xs : List V} {ds : List D} (i : Nat), RcA ca xs ds → RcA ca (xs.set i v) (ds.set i d)
  | _, _, _, .nil => .nil
  | _, _, 0, .cons _ r => .cons k r
  | _, _, i + 1, .cons h r => .cons h (RcA.set k i r)
theorem RcA.len {ca : Nat → Option Addr} {xs : List V} {ds : List D} (h : RcA ca xs ds) : xs.length = ds.length := by
  induction h with
  | nil => rfl
  | cons a t ih => simp [ih]
theorem RcA.snoc {ca : Nat → Option Addr} {xs : List V} {ds : List D} {v : V} {d : D} (h : RcA ca xs ds) (k : RcV ca v d) : RcA ca (xs ++ [v]) (ds ++ [d]) := by
  induction h with
  | nil => exact .cons k .nil
  | cons a t ih => exact .cons a ih
theorem RcA.get {ca : Nat → Option Addr} : ∀ {xs : List V} {ds : List D} {i : Nat} {d : D}, RcA ca xs ds → ds[i]? = some d → ∃ v, xs[i]? = some v ∧ RcV ca v d
  | _, _, _, _, .nil, e => by simp at e
  | _, _, 0, _, .cons h _, e => by
    simp at e
    subst e
    exact ⟨_, rfl, h⟩
  | _, _, i + 1, _, .cons _ r, e => by
    obtain ⟨v, h1, h2⟩ := RcA.get (i := i) r (by simpa using e)
    exact ⟨v, by simpa using h1, h2⟩
/-- a flat item -/
theorem RcV.rp {ca : Nat → Option Addr} {v : V} {d : D} (h : RcV ca v d) (hf : flatD d = true) : Rp K B v d := by
  cases h with
  | non => exact .non
  | bl b => exact .bl b
  | int i => exact .int i
  | str s => exact .str s
  | cell h => exact absurd hf (by simp [handle, flatD])
theorem rcv_of {ca : Nat → Option Addr} {v : V} {d : D} (h : Rp K B v d) (hf : flatD d = true) : RcV ca v d := by
  cases h with
  | non => exact .non
  | bl b => exact .bl b
  | int i => exact .int i
  | str s => exact .str s
  | lst _ _ => exact absurd hf (by simp [flatD])
  | tup _ _ => exact absurd hf (by simp [flatD])
end
end Ip

set_option Elab.async false
set_option linter.all false
set_option maxRecDepth 100000
set_option maxHeartbeats 4000000
/-! Lists that are handed about: len, an item, append, an item set. -/
namespace Ip
open PySem L2
section
variable {Γ : Gam} {e : Expr} {i : IE} {pos p0 p1 p2 : Pos} {x : Str} {j0 : Nat}
theorem clen_se (n : Nat) {y : Str} (hN : Γ.N[n]? = some y := by rfl) (hv : Vis Γ.sc y := by first | exact Or.inl rfl | exact Or.inr (Or.inl rfl) | exact Or.inr (Or.inr rfl)) (hd : (y == ("__debug__" : Str)) = false := by decide) (hcd : (y == ("__classdict__" : Str)) = false := by decide)
    (hb : Γ.bs.contains "len" = true := by rfl) (hg : GlS Γ.sc "len" := by rfl) (hs : ∀ env, starEach [.Name y p0] env = (false, eval (.Name y p0) env) :: starEach [] env := by intro _; rfl) :
    SE Γ (.Call (.Name "len" p1) [.Name y p0] [] pos) (.clen n) := fun X p o =>
  PE_weak (pe_callB call_len (o.gl hg) (o.bl _ (List.contains_iff_mem.mp hb)) PySem.boot_len (pa_cons (pe_var (i := n) (by rw [o.N]; exact hN) (by rw [o.sc]; exact hv) hd hcd) pa_nil (hs _)) (by decide) (by decide) (hs _) rfl) fun σ H Q q => by
    obtain ⟨st, B, M, F, env, d, st', r, he, k⟩ := q
    unfold ev at he
    split at he
    · rename_i kk e1
      split at he
      · rename_i ds e2
        cases he
        obtain ⟨a, xs, es, h1, h2, h3, h4, h5⟩ := r.cell e1
        rw [e2] at h3
        cases h3
        exact ⟨_, h1, _, xs.length, rfl, .inl ⟨xs, Or.inl (Or.inl h4), rfl⟩, k _ B H (Ex.refl B) r (by rw [h5.len]; exact .int _)⟩
      · cases he
    · cases he
theorem cix_se (n : Nat) {y : Str} (h : SE Γ e i) (hN : Γ.N[n]? = some y := by rfl) (hv : Vis Γ.sc y := by first | exact Or.inl rfl | exact Or.inr (Or.inl rfl) | exact Or.inr (Or.inr rfl)) (hd : (y == ("__debug__" : Str)) = false := by decide) (hcd : (y == ("__classdict__" : Str)) = false := by decide) (hs : PlainIx e := by intro _ _; rfl) :
    SE Γ (.Subscript (.Name y p0) e pos) (.cix n i) := fun X p o =>
  PE_weak (pe_ix ix_list (pe_var (i := n) (by rw [o.N]; exact hN) (by rw [o.sc]; exact hv) hd hcd) (h X p o) hs) fun σ H Q q => by
    obtain ⟨st, B, M, F, env, d, st', r, he, k⟩ := q
    unfold ev at he
    split at he
    · rename_i m st1 e1
      split at he
      · rename_i kk e2
        split at he
        · rename_i ds e3
          split at he
          · rename_i d2 e4
            split at he
            · rename_i hf
              cases he
              obtain ⟨a, xs0, es0, h1, h2, _⟩ := r.cell e2
              refine ⟨_, h1, st, B, M, F, env, _, _, r, e1, fun v B' H' x1 r' pv => ?_⟩
              cases pv
              obtain ⟨xs, es, h3, h4, h5⟩ := r'.bs.ce.at_ kk a h2
              rw [e3] at h3
              cases h3
              obtain ⟨w, hw, hr⟩ : ∃ w, atI xs m = some w ∧ RcV (lowc p.ca kk) w d := by
                unfold L2.atI at e4 ⊢
                obtain ⟨j, q1, q2⟩ := Option.bind_eq_some_iff.mp e4
                rw [h5.len, q1]
                exact h5.get q2
              exact ⟨a, xs, m, w, rfl, rfl, Or.inl (Or.inl h4), hw, k w B' H' x1 r' (hr.rp hf)⟩
            · cases he
          · cases he
        · cases he
      · cases he
    · cases he
theorem ss_capp (n : Nat) (h : SE Γ e i) (hN : Γ.N[n]? = some x := by rfl) (hv : Vis Γ.sc x := by first | exact Or.inl rfl | exact Or.inr (Or.inl rfl) | exact Or.inr (Or.inr rfl)) (hd : (x == ("__debug__" : Str)) = false := by decide) (hcd : (x == ("__classdict__" : Str)) = false := by decide)
    (hbase : ∀ env, attributeBase (.Name x p0) "append" env (eval (.Name x p0) env) = eval (.Name x p0) env := by intro _; rfl)
    (hfew : ∀ env, ((backTo p2 (starEach [e] env)).all (fun x => !x.1) && (backToKw p2 (keywordEach [] env)).all (fun x => x.1.isSome) && decide (([e] : List Expr).length + ([] : List Keyword).length + (if ([] : List Keyword).isEmpty then 0 else 1) < 30)) = true := by intro _; rfl)
    (hline : (p1.endLine == p2.line) = true := by rfl) (hs : ∀ env, starEach [e] env = (false, eval e env) :: starEach [] env := by intro _; rfl) (hsw : ∀ env, swapsWith (.Call (.Attribute (.Name x p0) "append" p1) [e] [] p2) none pos.line env = pure false := by intro _; rfl) :
    SS Γ (.Expr (.Call (.Attribute (.Name x p0) "append" p1) [e] [] p2) pos) (.capp n i) := fun X p o =>
  PS_weak (ps_expr (pe_bm PySem.F.plainAttrs_list PySem.F.slot_list_append PySem.F.type_list_append mt_append (pe_var (i := n) (by rw [o.N]; exact hN) (by rw [o.sc]; exact hv) hd hcd) ((sa_cons h sa_nil hs) X p o.toOkx) (hbase _) (hfew _) hline (hs _) rfl) (hsw _)) fun D σ H q => by
    obtain ⟨st, B, M, F, env, out, r, he, k⟩ := q
    unfold evS at he
    split at he
    · rename_i d st1 e1
      split at he
      · rename_i kk e2
        split at he
        · rename_i ds e3
          obtain ⟨⟨hf, hl⟩, he⟩ := ite_some he
          subst he
          obtain ⟨a, xs0, es0, h1, h2, _, h4, _⟩ := r.cell e2
          refine ⟨_, h1, .inl ⟨rfl, xs0, Or.inl (Or.inl h4)⟩, st, B, M, F, env, [d], st1, r, by unfold ea; rw [e1]; rfl, fun vs B' H' x r' pv => ?_⟩
          match vs, pv with
          | [v], .cons pv .nil =>
            obtain ⟨xs, es, h5, h6, h7⟩ := r'.bs.ce.at_ kk a h2
            rw [e3] at h5
            cases h5
            refine ⟨a, xs, v, rfl, rfl, h6, most_lt (by rw [h7.len]; exact hl), ?_⟩
            exact k B' _ σ _ x (r'.cput h2 (h7.snoc (rcv_of pv hf)))
        · cases he
      · cases he
    · cases he
theorem ss_cset (n j : Nat) (h : SE Γ e i) (hN : Γ.N[n]? = some x := by rfl) (hv : Vis Γ.sc x := by first | exact Or.inl rfl | exact Or.inr (Or.inl rfl) | exact Or.inr (Or.inr rfl)) (hd : (x == ("__debug__" : Str)) = false := by decide) (hcd : (x == ("__classdict__" : Str)) = false := by decide)
    (hs : ∀ env, swapsWithSole [.Subscript (.Name x p0) (.Constant (.int (j : Int)) j0 p1) p2] e pos.line env = pure false := by intro _; rfl) (hw : ∀ env, swappedStores [.Subscript (.Name x p0) (.Constant (.int (j : Int)) j0 p1) p2] e env = pure none := by intro _; rfl)
    (h1 : ∀ env, (assignEach [.Subscript (.Name x p0) (.Constant (.int (j : Int)) j0 p1) p2] env).map (·.2) = [assign (.Subscript (.Name x p0) (.Constant (.int (j : Int)) j0 p1) p2) env] := by intro _; rfl) :
    SS Γ (.Assign [.Subscript (.Name x p0) (.Constant (.int (j : Int)) j0 p1) p2] e pos) (.cset n j i) := fun X p o =>
  PS_weak (ps_asg (h X p o.toOkx) (pg_sub (pe_var (i := n) (by rw [o.N]; exact hN) (by rw [o.sc]; exact hv) hd hcd) pe_int set_list) (hs _) (hw _) (h1 _)) fun D σ H q => by
    obtain ⟨st, B, M, F, env, out, r, he, kk⟩ := q
    unfold evS at he
    split at he
    · rename_i d st1 e1
      split at he
      · rename_i k e2
        split at he
        · rename_i ds e3
          obtain ⟨⟨hf, hl⟩, he⟩ := ite_some he
          subst he
          refine ⟨st, B, M, F, env, d, st1, r, e1, fun v B' H' x1 r' pv => ?_⟩
          obtain ⟨a, xs, es, h2, h3, h4, h5, h6⟩ := r'.cell e2
          rw [e3] at h4
          cases h4
          have hix : ixN xs.length (j : Int) = some j := by
            have := h6.len
            unfold ixN
            rw [if_pos (by omega), if_pos (by omega)]
            rfl
          exact ⟨_, h2, a, _, (j : Int), j, rfl, rfl, h5, hix, kk B' M σ _ x1 (r'.cput h3 (h6.set (rcv_of pv hf) j))⟩
        · cases he
      · cases he
    · cases he
end
end Ip

set_option Elab.async false
set_option linter.all false
set_option maxRecDepth 100000
set_option maxHeartbeats 4000000
/-! A new list that is handed about. -/
namespace Ip
open PySem L2
/-- one list more -/
def Pa.add (p : Pa) (n : Nat) (a : Addr) : Pa := ⟨p.a, p.q, p.lk, p.io, p.fr, fun k => if k = n then some a else p.ca k, p.tb⟩
section
variable {K : PySem.W.Frag} {p : Pa} {st : Pl} {B M F : Hp} {env : List Sl} {σ : L2.St} {H : Hp} {n : Nat} {a : Addr}
theorem lowc_add {k : Nat} (h : k ≤ n) : lowc (p.add n a).ca k = lowc p.ca k := by
  funext j
  unfold lowc
  by_cases hj : j < k
  · rw [if_pos hj, if_pos hj]
    show (if j = n then some a else p.ca j) = _
    rw [if_neg (by omega)]
  · rw [if_neg hj, if_neg hj]
theorem add_old {k : Nat} (h : k ≠ n) : (p.add n a).ca k = p.ca k := if_neg h
theorem add_new : (p.add n a).ca n = some a := if_pos rfl
theorem rca_flat {ca : Nat → Option Addr} : ∀ {ds : List D} {xs : List V}, RpA K B xs ds → ds.all flatD = true → RcA ca xs ds
  | [], _, .nil, _ => .nil
  | d :: ds, _, .cons h r, hf => by
    rw [List.all_cons, Bool.and_eq_true_iff] at hf
    exact .cons (rcv_of h hf.1) (rca_flat r hf.2)
theorem SlR.add (hn : ∀ k c, p.ca k = some c → k < n) : ∀ {s : Sl} {o : Option V}, SlR K p B M s o → SlR K (p.add n a) B M s o
  | .no, _, _ => True.intro
  | .im _, some _, h => h
  | .im _, none, h => h
  | .ow _, some (.ref _), h => h
  | .ow _, some .non, h | .ow _, some (.bl _), h | .ow _, some (.int _), h | .ow _, some (.str _), h | .ow _, some (.byt _), h | .ow _, some (.flt _), h | .ow _, some (.ty _), h | .ow _, none, h => h
  | .pl, some (.ref _), h => h
  | .pl, some .non, h | .pl, some (.bl _), h | .pl, some (.int _), h | .pl, some (.str _), h | .pl, some (.byt _), h | .pl, some (.flt _), h | .pl, some (.ty _), h | .pl, none, h => h
  | .ce k, some (.ref c), h => by
    have h' : p.ca k = some c := h
    show (p.add n a).ca k = some c
    rw [add_old (by have := hn k c h'; omega)]
    exact h'
  | .ce _, some .non, h | .ce _, some (.bl _), h | .ce _, some (.int _), h | .ce _, some (.str _), h | .ce _, some (.byt _), h | .ce _, some (.flt _), h | .ce _, some (.ty _), h | .ce _, none, h => h
  | .er _ _, _, h => h
/-- p' has the same pool, and the lists of p below n -/
structure PEx (n : Nat) (p p' : Pa) : Prop where
  a : p'.a = p.a
  q : p'.q = p.q
  lk : p'.lk = p.lk
  io : p'.io = p.io
  fr : p'.fr = p.fr
  ca : ∀ k, k < n → p'.ca k = p.ca k
  tb : p'.tb = p.tb
theorem PEx.refl (n : Nat) (p : Pa) : PEx n p p := ⟨rfl, rfl, rfl, rfl, rfl, fun _ _ => rfl, rfl⟩
theorem PEx.trans {n m : Nat} {p p1 p2 : Pa} (h : PEx n p p1) (g : PEx m p1 p2) (hl : n ≤ m) : PEx n p p2 := ⟨g.a.trans h.a, g.q.trans h.q, g.lk.trans h.lk, g.io.trans h.io, g.fr.trans h.fr, fun k hk => (g.ca k (by omega)).trans (h.ca k hk), g.tb.trans h.tb⟩
theorem pex_add (p : Pa) (n : Nat) (a : Addr) : PEx n p (p.add n a) := ⟨rfl, rfl, rfl, rfl, rfl, fun k hk => add_old (by omega), rfl⟩
theorem lowc_ex {p' : Pa} {k : Nat} (h : PEx n p p') (hk : k ≤ n) : lowc p'.ca k = lowc p.ca k := by
  funext j
  unfold lowc
  by_cases hj : j < k
  · rw [if_pos hj, if_pos hj, h.ca j (by omega)]
  · rw [if_neg hj, if_neg hj]
/-- the lists made since are forgotten -/
theorem Bs.forgetX {p' : Pa} (x : PEx n p p') (hn : ∀ k c, p.ca k = some c → k < n) (w : Bs p' st B F H) : Bs p { st with cs := st.cs.take n } B F H where
  b := w.b
  f := w.f
  d := w.d
  pf := by rw [← x.a]; exact w.pf
  pb := by rw [← x.a]; exact w.pb
  pl := by
    obtain ⟨h1, h2⟩ := w.pl
    rw [x.a, x.q] at h1
    rw [x.q] at h2
    exact ⟨h1, h2⟩
  ce := by
    refine ⟨fun k c hk => ?_, fun k c hk => ?_, fun j k c hj hk => ?_, fun q hq => w.ce.tn q (by rw [x.tb]; exact hq), by rw [← x.tb]; exact w.ce.tt⟩
    · have hl := hn k c hk
      obtain ⟨xs, ds, h1, h2, h3⟩ := w.ce.at_ k c (by rw [x.ca k hl]; exact hk)
      rw [lowc_ex x (by omega)] at h3
      exact ⟨xs, ds, by rw [List.getElem?_take, if_pos hl]; exact h1, h2, h3⟩
    · have z := w.ce.b k c (by rw [x.ca k (hn k c hk)]; exact hk)
      rw [x.a] at z
      exact z
    · exact w.ce.inj j k c (by rw [x.ca j (hn j c hj)]; exact hj) (by rw [x.ca k (hn k c hk)]; exact hk)
theorem Rel.low (r : Rel K p st B M F env σ H) : ∀ k c, p.ca k = some c → k < st.cs.length := fun k c hk => by
  obtain ⟨_, _, q1, _⟩ := r.bs.ce.at_ k c hk
  exact (List.getElem?_eq_some_iff.mp q1).1
theorem Bs.low {p : Pa} (w : Bs p st B F H) : ∀ k c, p.ca k = some c → k < st.cs.length := fun k c hk => by
  obtain ⟨_, _, q1, _⟩ := w.ce.at_ k c hk
  exact (List.getElem?_eq_some_iff.mp q1).1
/-- behind an expression that made some for itself -/
theorem Rel.forgetE {p' : Pa} {st' : Pl} {B' H' : Hp} (r : Rel K p st B M F env σ H) (x : PEx st.cs.length p p') (e : Ex B B') (r' : Rel K p' st' B' M F env σ H') : Rel K p { st' with cs := st'.cs.take st.cs.length } B' M F env σ H' where
  bs := r'.bs.forgetX x r.low
  m := r'.m
  md := fun a o h => by
    have z := r'.md a o h
    rw [x.a] at z
    exact z
  mc := r.mc
  mt := r.mt
  en := r.en.mono e
theorem SlR.forget {p' : Pa} (x : PEx n p p') : ∀ {s : Sl} {o : Option V}, SlR K p' B M s o → SlR K p B M (unc n s) o
  | .no, _, _ => True.intro
  | .im _, some _, h => h
  | .im _, none, h => h
  | .ow _, some (.ref _), h => h
  | .ow _, some .non, h | .ow _, some (.bl _), h | .ow _, some (.int _), h | .ow _, some (.str _), h | .ow _, some (.byt _), h | .ow _, some (.flt _), h | .ow _, some (.ty _), h | .ow _, none, h => h
  | .pl, some (.ref _), h => Eq.trans h x.a
  | .pl, some .non, h | .pl, some (.bl _), h | .pl, some (.int _), h | .pl, some (.str _), h | .pl, some (.byt _), h | .pl, some (.flt _), h | .pl, some (.ty _), h | .pl, none, h => h
  | .ce k, o, h => by
    show SlR K p B M (if k < n then .ce k else .no) o
    by_cases hk : k < n
    · rw [if_pos hk]
      cases o with
      | none => exact h
      | some v =>
        cases v with
        | ref c =>
          have h' : p'.ca k = some c := h
          rw [x.ca k hk] at h'
          exact h'
        | _ => exact h
    · rw [if_neg hk]
      exact True.intro
  | .er _ _, _, h => by
    obtain ⟨a, dd, f, u, h1, h2, h3, h4⟩ := h
    rw [x.lk] at h2
    exact ⟨a, dd, f, u, h1, h2, h3, h4⟩
theorem Rel.forget {p' : Pa} (x : PEx n p p') (hn : ∀ k c, p.ca k = some c → k < n) (r : Rel K p' st B M F env σ H) : Rel K p { st with cs := st.cs.take n } B M F (env.map (unc n)) σ H where
  bs := r.bs.forgetX x hn
  m := r.m
  md := fun a o h => by
    have z := r.md a o h
    rw [x.a] at z
    exact z
  mc := fun k c hk => r.mc k c (by rw [x.ca k (hn k c hk)]; exact hk)
  mt := fun q hq => r.mt q (by rw [x.tb]; exact hq)
  en := by
    have old : ∀ {i : Nat} {ds : List D}, (env.map (unc n))[i]? = some (.ow ds) → env[i]? = some (.ow ds) := fun {i ds} hi => by
      rw [List.getElem?_map] at hi
      obtain ⟨s0, h1, h2⟩ := Option.map_eq_some_iff.mp hi
      cases s0 with
      | ow es =>
        cases h2
        exact h1
      | ce k =>
        have h3 : (if k < n then Sl.ce k else Sl.no) = .ow ds := h2
        split at h3 <;> cases h3
      | _ => cases h2
    refine ⟨by rw [List.length_map]; exact r.en.len, fun i s hi => ?_, fun i j ds es b hi hj si sj => r.en.ap i j ds es b (old hi) (old hj) si sj, fun i b ds hp hi => r.en.io i b ds (by rw [x.io]; exact hp) (old hi)⟩
    rw [List.getElem?_map] at hi
    obtain ⟨s0, h1, rfl⟩ := Option.map_eq_some_iff.mp hi
    obtain ⟨o, h2, h3⟩ := r.en.at_ i s0 h1
    exact ⟨o, h2, h3.forget x⟩
/-- it is made -/
theorem Rel.cnew (r : Rel K p st B M F env σ H) (hn : ∀ k c, p.ca k = some c → k < st.cs.length) {xs : List V} {ds : List D} (f : Fr B M F p a) (ha : H a = some (.lst xs)) (rx : RpA K B xs ds) (hf : ds.all flatD = true) (j : Nat) :
    Rel K (p.add st.cs.length a) { st with cs := st.cs ++ [ds] } B M F (env.set j (.ce st.cs.length)) (σ.set j (some (.ref a))) H where
  bs := ⟨r.bs.b, r.bs.f, r.bs.d, r.bs.pf, r.bs.pb, r.bs.pl, by
    refine ⟨fun k c hk => ?_, fun k c hk => ?_, fun i k c hi hk => ?_, r.bs.ce.tn, r.bs.ce.tt⟩
    · by_cases e : k = st.cs.length
      · subst e
        rw [add_new] at hk
        cases hk
        exact ⟨xs, ds, by simp, ha, by rw [lowc_add (Nat.le_refl _)]; exact rca_flat rx hf⟩
      · rw [add_old e] at hk
        have hl := hn k c hk
        obtain ⟨ys, es, h1, h2, h3⟩ := r.bs.ce.at_ k c hk
        exact ⟨ys, es, by show (st.cs ++ [ds])[k]? = _; rw [List.getElem?_append_left hl]; exact h1, h2, by rw [lowc_add (by omega)]; exact h3⟩
    · by_cases e : k = st.cs.length
      · subst e
        rw [add_new] at hk
        cases hk
        exact ⟨f.b, f.f, f.p.1⟩
      · rw [add_old e] at hk
        exact r.bs.ce.b k c hk
    · by_cases e1 : i = st.cs.length
      · by_cases e2 : k = st.cs.length
        · omega
        · subst e1
          rw [add_new] at hi
          cases hi
          rw [add_old e2] at hk
          exact absurd hk (f.p.2.1 k)
      · rw [add_old e1] at hi
        by_cases e2 : k = st.cs.length
        · subst e2
          rw [add_new] at hk
          cases hk
          exact absurd hi (f.p.2.1 i)
        · rw [add_old e2] at hk
          exact r.bs.ce.inj i k c hi hk⟩
  m := r.m
  md := r.md
  mc := fun k c hk => by
    by_cases e : k = st.cs.length
    · subst e
      rw [add_new] at hk
      cases hk
      exact f.m
    · rw [add_old e] at hk
      exact r.mc k c hk
  mt := r.mt
  en := {
    len := by rw [List.length_set, List.length_set]; exact r.en.len
    at_ := fun i s hi => by
      by_cases e : j = i
      · subst e
        have hl : j < env.length := by
          have := (List.getElem?_eq_some_iff.mp hi).1
          rw [List.length_set] at this
          exact this
        rw [List.getElem?_set_self hl] at hi
        cases hi
        exact ⟨some (.ref a), List.getElem?_set_self (by rw [← r.en.len]; exact hl), add_new⟩
      · rw [List.getElem?_set_ne e] at hi
        obtain ⟨w, h1, h2⟩ := r.en.at_ i s hi
        exact ⟨w, by rw [List.getElem?_set_ne e]; exact h1, h2.add hn⟩
    ap := fun i k es fs b hi hk si sk => by
      have hne : ∀ {i : Nat} {es : List D}, (env.set j (.ce st.cs.length))[i]? = some (.ow es) → j ≠ i := fun {i es} hi e => by
        subst e
        have hl : j < env.length := by
          have := (List.getElem?_eq_some_iff.mp hi).1
          rw [List.length_set] at this
          exact this
        rw [List.getElem?_set_self hl] at hi
        cases hi
      have n1 := hne hi
      have n2 := hne hk
      rw [List.getElem?_set_ne n1] at hi si
      rw [List.getElem?_set_ne n2] at hk sk
      exact r.en.ap i k es fs b hi hk si sk
    io := fun i b es hp hi => by
      by_cases e : j = i
      · subst e
        have hl : j < env.length := by
          have := (List.getElem?_eq_some_iff.mp hi).1
          rw [List.length_set] at this
          exact this
        rw [List.getElem?_set_self hl] at hi
        cases hi
      · rw [List.getElem?_set_ne e] at hi ⊢
        exact r.en.io i b es hp hi }
end
section
variable {Γ : Gam} {X : Cx} {p p' : Pa}
/-- what is known of a place does not speak of the pool's place, but for the caught errors -/
theorem Okx.at_ (o : Okx Γ X p) (hh : Γ.hot = false) (hp : p'.lk = noLk) (ht : p'.tb = p.tb) : Okx Γ X p' :=
  { K := o.K, N := o.N, nd := o.nd, sc := o.sc, calm := o.calm, hotc := fun z => by
      rw [hh] at z
      cases z
    units := o.units, fn := o.fn, fnh := o.fnh, bl := o.bl, xn := o.xn, er := o.er, df := o.df, gn := o.gn, lk := fun _ => hp, lkh := fun _ _ _ _ z => by
      rw [hp] at z
      exact z.elim
    ef := o.ef, tb := by rw [ht]; exact o.tb, kd := o.kd, lx := o.lx, lm := o.lm }
theorem Oks.at_ (o : Oks Γ X p) (hh : Γ.hot = false) (hp : p'.lk = noLk) (hi : p'.io = p.io) (hf : p'.fr = p.fr) (ht : p'.tb = p.tb) : Oks Γ X p' :=
  { o.toOkx.at_ hh hp ht with own := o.own, stk := o.stk, frm := o.frm, fnx := o.fnx, io := by rw [hi]; exact o.io, fr := by rw [hf]; exact o.fr, fi := o.fi, ff := o.ff }
theorem OutK.forget {K : PySem.W.Frag} {B B' F : Hp} {D : Ends} {n : Nat} (x : PEx n p p') (hn : ∀ k c, p.ca k = some c → k < n) (e : Ex B B') : ∀ {o : Out}, OutK K p B F D (o.unc n) → OutK K p' B' F D o
  | .nx _ _, h => fun B2 M σ H y r => h B2 M σ H (e.trans y) (r.forget x hn)
  | .rt d st, h => fun v B2 H y w pv => h v B2 H (e.trans y) (w.forgetX x hn) (by
      unfold RtV at pv ⊢
      rw [x.fr] at pv
      by_cases c : p.fr = true
      · rw [if_pos c] at pv ⊢
        rcases pv with z | ⟨a, xs, ds, z1, z2, z3, z4, z5, z6, z7⟩
        · exact .inl z
        · exact .inr ⟨a, xs, ds, z1, z2, z3, z4, z5, z6, ⟨by rw [← x.a]; exact z7.1, fun k hk => z7.2.1 k (by rw [x.ca k (hn k a hk)]; exact hk), fun q hq => z7.2.2 q (by rw [x.tb]; exact hq)⟩⟩
      · rw [if_neg c] at pv ⊢
        exact pv)
  | .bk _ _, h => fun B2 M σ H y r => h B2 M σ H (e.trans y) (r.forget x hn)
  | .ct _ _, h => fun B2 M σ H y r => h B2 M σ H (e.trans y) (r.forget x hn)
theorem PSs_exP {X : Cx} {ss : List Stmt} {q : Pa → Prop} {t : Pa → TS} (h : ∀ p : Pa, q p → PSs X ss (t p)) : PSs X ss (fun D σ H => ∃ p : Pa, q p ∧ t p D σ H) := ⟨fun pins s σ H D I z => by
  obtain ⟨p, hp, z⟩ := z
  exact (h p hp).run pins s σ H D I z⟩
theorem PE_exP {X : Cx} {e : Expr} {q : Pa → Prop} {t : Pa → TE} (h : ∀ p : Pa, q p → PE X e (t p)) : PE X e (fun σ H Q => ∃ p : Pa, q p ∧ t p σ H Q) := ⟨fun pins s σ H Q I z => by
  obtain ⟨p, hp, z⟩ := z
  exact (h p hp).run pins s σ H Q I z⟩
/-- the names behind which a new one stands: evaluated -/
theorem cnew_ev {cl : Cl} {i : IE} {r : ISs} {j : Nat} {env : List Sl} {st : Pl} {out : Out} (he : evSs cl (.cons (.cnew j i r) .nil) env st = some out) :
    ∃ ds st1 o2, ev cl i env st = some (.list ds, st1) ∧ ds.all flatD = true ∧ evSs cl r (env.set j (.ce st1.cs.length)) { st1 with cs := st1.cs ++ [ds] } = some o2 ∧ out = o2.unc st1.cs.length := by
  have he2 : evS cl (.cnew j i r) env st = some out := by
    unfold evSs at he
    cases e1 : evS cl (.cnew j i r) env st with
    | none =>
      rw [e1] at he
      cases he
    | some o1 =>
      rw [e1] at he
      cases o1 with
      | nx e2 s2 =>
        unfold evSs at he
        exact he
      | _ => exact he
  unfold evS at he2
  split at he2
  · rename_i ds st1 e1
    have hf : ds.all flatD = true := by
      by_cases hf : ds.all flatD = true
      · exact hf
      · rw [if_neg hf] at he2
        cases he2
    rw [if_pos hf] at he2
    split at he2
    · rename_i o2 e2
      cases he2
      exact ⟨ds, st1, o2, e1, hf, e2, rfl⟩
    · cases he2
  · cases he2
/-- x = [..], handed about from here on -/
theorem sss_cnew {e : Expr} {i : IE} {x : Str} {p0 pos : Pos} {rest : List Stmt} {r : ISs} (j : Nat) (h : SF Γ e i) (hr : SSs Γ rest r) (hh : Γ.hot = false := by rfl) (hN : Γ.N[j]? = some x := by rfl) (hl : Loc Γ.sc x := by first | exact Or.inl rfl | exact Or.inr rfl) (hs : ∀ env, swapsWith e (some (.Name x p0)) pos.line env = pure false := by intro _; rfl) :
    SSs Γ (.Assign [.Name x p0] e pos :: rest) (.cons (.cnew j i r) .nil) := fun X p o => by
  refine PSs_weak (pss_cons (ps_set (i := j) (by rw [o.N]; exact o.nd) (by rw [o.N]; exact hN) (by rw [o.sc]; exact hl) (h X p o.toOkx) (hs _) (.inl (o.fnx x))) (PSs_exP (q := fun p' => p'.lk = noLk ∧ p'.io = p.io ∧ p'.fr = p.fr ∧ p'.tb = p.tb) fun p' hp => hr X p' (o.at_ hh hp.1 hp.2.1 hp.2.2.1 hp.2.2.2))) fun D σ H q => ?_
  obtain ⟨st, B, M, F, env, out, r0, he, k⟩ := q
  obtain ⟨ds, st1, o2, e1, hf, e2, rfl⟩ := cnew_ev he
  refine ⟨st, B, M, F, env, ds, st1, r0, e1, fun a xs B' H' x h1 h2 h3 h4 h5 h6 r' => ?_⟩
  exact ⟨p.add st1.cs.length a, ⟨o.lk hh, rfl, rfl, rfl⟩, _, B', M, F, _, o2, r'.cnew r'.low ⟨h1, h2, h3, h4⟩ h5 h6 hf j, e2, OutK.forget (pex_add p _ a) r'.low x k⟩
/-- the same, a comprehension -/
theorem sss_cnewLc {elt iter : Expr} {ifs : List Expr} {scope : Scope} {x y : Str} {px p0 p1 pos : Pos} {it : IT} {cs : IEs} {ie : IE} {rest : List Stmt} {r : ISs} (j n : Nat) (hi : SI Γ iter it) (hc : STs (Γ.blk scope) ifs cs) (he : SE (Γ.blk scope) elt ie) (hr : SSs Γ rest r) (hh : Γ.hot = false := by rfl)
    (hN : Γ.N[j]? = some x := by rfl) (hlv : Γ.sc.names.lookup x = some .local := by rfl) (hb : blkC Γ.N Γ.sc scope [(y, n)] = true := by rfl) (hj : Γ.N[n]? = some y := by rfl) (hlx : LcN scope Γ.sc y := by first | exact Or.inl rfl | exact Or.inr ⟨rfl, rfl⟩)
    (hk : Γ.sc.kind = .function := by rfl) (hln : (p0.line == p1.line) = true := by rfl) (hany : (scope.names.any fun (n, k) => n == x && (k == .local || k == .cell)) = false := by rfl)
    (hs : ∀ env y, foldedSetIterable iter env y = pure y := by intro _ _; rfl) : SSs Γ (.Assign [.Name x p0] (.ListComp elt [⟨.Name y px, iter, ifs, 0⟩] scope p1) pos :: rest) (.cons (.cnew j (.lc n it cs ie) r) .nil) := fun X p o => by
  refine PSs_weak (pss_cons (ps_setLc (i := j) (own := [(y, n)]) (g := gName n) (tt := Ts Γ.K Γ.cl p cs) (te := Tx Γ.K Γ.cl p ie) (o.calm hh) (by rw [o.N]; exact o.nd) (by rw [o.N]; exact hN) (by rw [o.sc]; exact hlv)
    (sw_true (by rw [o.sc]; exact hk) (by rw [o.sc]; exact hlv) hln hany) (hi X p _ o.toOkx) (blkOk_by (by rw [o.N, o.sc]; exact hb))
    (fun s H C cl fp => pg_name (show X.N.Nodup by rw [o.N]; exact o.nd) (show X.N[n]? = some y by rw [o.N]; exact hj) (show Loc _ y from hlx.loc (o.toOkx.blk hh scope s H C cl fp).sc) (hlx.fn (o.toOkx.blk hh scope s H C cl fp).sc))
    (fun s H C cl fp => hc _ p (o.toOkx.blk hh scope s H C cl fp)) (fun s H C cl fp => he _ p (o.toOkx.blk hh scope s H C cl fp)) (hs _)) (PSs_exP (q := fun p' => p'.lk = noLk ∧ p'.io = p.io ∧ p'.fr = p.fr ∧ p'.tb = p.tb) fun p' hp => hr X p' (o.at_ hh hp.1 hp.2.1 hp.2.2.1 hp.2.2.2))) fun D σ H q => ?_
  obtain ⟨st, B, M, F, env, out, r0, he, k⟩ := q
  obtain ⟨ds, st1, o2, e1, hf, e2, rfl⟩ := cnew_ev he
  unfold tSeq tAsg
  exact lc_read ⟨st, B, M, F, env, ds, st1, r0, e1, fun a xs B' H' x h1 h2 h3 h4 h5 h6 r' => ⟨p.add st1.cs.length a, ⟨o.lk hh, rfl, rfl, rfl⟩, _, B', M, F, _, o2, r'.cnew r'.low ⟨h1, h2, h3, h4⟩ h5 h6 hf j, e2, OutK.forget (pex_add p _ a) r'.low x k⟩⟩
end
end Ip

set_option Elab.async false
set_option linter.all false
set_option maxRecDepth 100000
set_option maxHeartbeats 4000000
/-! Calls that hand such lists on, some made for the call; one read out of another. -/
namespace Ip
open PySem L2
section
variable {K : PySem.W.Frag} {p : Pa} {st : Pl} {B M F : Hp} {env : List Sl} {σ : L2.St} {H : Hp} {a : Addr}
/-- made, without a name -/
theorem Rel.cnew0 (r : Rel K p st B M F env σ H) {xs : List V} {ds : List D} (f : Fr B M F p a) (ha : H a = some (.lst xs)) (rx : RcA p.ca xs ds) : Rel K (p.add st.cs.length a) { st with cs := st.cs ++ [ds] } B M F env σ H where
  bs := ⟨r.bs.b, r.bs.f, r.bs.d, r.bs.pf, r.bs.pb, r.bs.pl, by
    have hn := r.low
    refine ⟨fun k c hk => ?_, fun k c hk => ?_, fun i k c hi hk => ?_, r.bs.ce.tn, r.bs.ce.tt⟩
    · by_cases e : k = st.cs.length
      · subst e
        rw [add_new] at hk
        cases hk
        refine ⟨xs, ds, by simp, ha, ?_⟩
        rw [lowc_add (Nat.le_refl _)]
        have e2 : lowc p.ca st.cs.length = p.ca := by
          funext j
          unfold lowc
          split
          · rfl
          · rename_i hj
            cases hc : p.ca j with
            | none => rfl
            | some c => exact absurd (hn j c hc) hj
        rw [e2]
        exact rx
      · rw [add_old e] at hk
        have hl := hn k c hk
        obtain ⟨ys, es, h1, h2, h3⟩ := r.bs.ce.at_ k c hk
        exact ⟨ys, es, by show (st.cs ++ [ds])[k]? = _; rw [List.getElem?_append_left hl]; exact h1, h2, by rw [lowc_add (by omega)]; exact h3⟩
    · by_cases e : k = st.cs.length
      · subst e
        rw [add_new] at hk
        cases hk
        exact ⟨f.b, f.f, f.p.1⟩
      · rw [add_old e] at hk
        exact r.bs.ce.b k c hk
    · by_cases e1 : i = st.cs.length
      · by_cases e2 : k = st.cs.length
        · omega
        · subst e1
          rw [add_new] at hi
          cases hi
          rw [add_old e2] at hk
          exact absurd hk (f.p.2.1 k)
      · rw [add_old e1] at hi
        by_cases e2 : k = st.cs.length
        · subst e2
          rw [add_new] at hk
          cases hk
          exact absurd hi (f.p.2.1 i)
        · rw [add_old e2] at hk
          exact r.bs.ce.inj i k c hi hk⟩
  m := r.m
  md := r.md
  mc := fun k c hk => by
    by_cases e : k = st.cs.length
    · subst e
      rw [add_new] at hk
      cases hk
      exact f.m
    · rw [add_old e] at hk
      exact r.mc k c hk
  mt := r.mt
  en := ⟨r.en.len, fun i s hi => by
    obtain ⟨w, h1, h2⟩ := r.en.at_ i s hi
    exact ⟨w, h1, h2.add r.low⟩, r.en.ap, r.en.io⟩
end
/-- p' has the lists of p, and newer ones -/
def PExE (p p' : Pa) : Prop := ∃ n, (∀ k c, p.ca k = some c → k < n) ∧ PEx n p p'
theorem PExE.refl {p : Pa} {n : Nat} (h : ∀ k c, p.ca k = some c → k < n) : PExE p p := ⟨n, h, PEx.refl n p⟩
theorem PExE.trans {p p1 p2 : Pa} (h : PExE p p1) (g : PExE p1 p2) : PExE p p2 := by
  obtain ⟨n, h1, h2⟩ := h
  obtain ⟨m, g1, g2⟩ := g
  refine ⟨min n m, fun k c hk => ?_, g2.a.trans h2.a, g2.q.trans h2.q, g2.lk.trans h2.lk, g2.io.trans h2.io, g2.fr.trans h2.fr, fun k hk => ?_, g2.tb.trans h2.tb⟩
  · have l1 := h1 k c hk
    have l2 := g1 k c (by rw [h2.ca k l1]; exact hk)
    omega
  · rw [g2.ca k (by omega), h2.ca k (by omega)]
theorem PExE.at_ {p p' : Pa} (h : PExE p p') {k : Nat} {a : Addr} (hk : p.ca k = some a) : p'.ca k = some a := by
  obtain ⟨n, h1, h2⟩ := h
  rw [h2.ca k (h1 k a hk)]
  exact hk
theorem PExE.lk {p p' : Pa} (h : PExE p p') : p'.lk = p.lk := by
  obtain ⟨n, _, h2⟩ := h
  exact h2.lk
theorem PExE.a {p p' : Pa} (h : PExE p p') : p'.a = p.a := by
  obtain ⟨n, _, h2⟩ := h
  exact h2.a
section
variable {K : PySem.W.Frag} {p : Pa} {st : Pl} {B M F : Hp} {env : List Sl} {σ : L2.St} {H : Hp} {a : Addr}
theorem Bs.forgetE {p' : Pa} {m : Nat} (x : PExE p p') (hm : ∀ k c, p.ca k = some c → k < m) (w : Bs p' st B F H) : Bs p { st with cs := st.cs.take m } B F H := by
  obtain ⟨n, h1, h2⟩ := x
  have w1 := w.forgetX h2 h1
  refine ⟨w1.b, w1.f, w1.d, w1.pf, w1.pb, w1.pl, ⟨fun k c hk => ?_, w1.ce.b, w1.ce.inj, w1.ce.tn, w1.ce.tt⟩⟩
  obtain ⟨xs, ds, g1, g2, g3⟩ := w1.ce.at_ k c hk
  refine ⟨xs, ds, ?_, g2, g3⟩
  have g1 : (st.cs.take n)[k]? = some ds := g1
  rw [List.getElem?_take, if_pos (h1 k c hk)] at g1
  show (st.cs.take m)[k]? = some ds
  rw [List.getElem?_take, if_pos (hm k c hk)]
  exact g1
theorem Rel.forgetP {p' : Pa} {st' : Pl} {B' H' : Hp} (r : Rel K p st B M F env σ H) (x : PExE p p') (e : Ex B B') (r' : Rel K p' st' B' M F env σ H') : Rel K p { st' with cs := st'.cs.take st.cs.length } B' M F env σ H' where
  bs := r'.bs.forgetE x r.low
  m := r'.m
  md := fun a o h => by
    have z := r'.md a o h
    rw [x.a] at z
    exact z
  mc := r.mc
  mt := r.mt
  en := r.en.mono e
theorem ArA.ex {p' : Pa} (x : PExE p p') : ∀ {vs : List V} {as : List (Option D)}, ArA K p B vs as → ArA K p' B vs as
  | _, _, .nil => .nil
  | _, _, .cons h r => .cons h (ArA.ex x r)
  | _, _, .pool (vs := vs) (ds := ds) r => by
    have z : ArA K p' B (.ref p'.a :: vs) (none :: ds) := .pool (ArA.ex x r)
    rw [x.a] at z
    exact z
  | _, _, .cell h r => .cell (x.at_ h) (ArA.ex x r)
theorem cellD_h (k : Nat) (os : List (Option D)) : cellD (some (handle k) :: os) = (cellD os).map fun ds => handle k :: ds := rfl
theorem cellD_rp {v : V} {d : D} (h : Rp K B v d) (os : List (Option D)) : cellD (some d :: os) = if flatD d = true then (cellD os).map fun ds => d :: ds else none := by cases h <;> rfl
/-- arguments as items of such a list -/
theorem rca_of {vs : List V} {os : List (Option D)} (h : ArA K p B vs os) : ∀ {ds : List D}, cellD os = some ds → RcA p.ca vs ds := by
  induction h with
  | nil =>
    intro ds h
    cases h
    exact .nil
  | pool _ _ =>
    intro ds h
    cases h
  | cell hk _ ih =>
    intro ds h
    rw [cellD_h] at h
    obtain ⟨es, h1, rfl⟩ := Option.map_eq_some_iff.mp h
    exact .cons (.cell hk) (ih h1)
  | @cons v vs d ds0 hv _ ih =>
    intro ds h
    rw [cellD_rp hv] at h
    by_cases hf : flatD d = true
    · rw [if_pos hf] at h
      obtain ⟨es, h1, rfl⟩ := Option.map_eq_some_iff.mp h
      exact .cons (rcv_of hv hf) (ih h1)
    · rw [if_neg hf] at h
      cases h
end
/-- arguments, some of them made for the call -/
def Tgx (K : PySem.W.Frag) (cl : Cl) (p : Pa) (es : IEs) : TA := fun σ H Q => ∃ st B M F env ds st', Rel K p st B M F env σ H ∧ agx cl es env st = some (ds, st') ∧
  ∀ vs p' B' H', PExE p p' → Ex B B' → Rel K p' st' B' M F env σ H' → ArA K p' B' vs ds → Q vs H'
/-- a place where what is known holds, whatever lists are handed about -/
def At0 (Γ : Gam) (p : Pa) : Prop := p.lk = noLk ∧ p.tb = tabK Γ.K
def SGX (Γ : Gam) (es : List Expr) (i : IEs) : Prop := ∀ X, (∀ p : Pa, At0 Γ p → Okx Γ X p) → PA X es (fun σ H Q => ∃ p : Pa, At0 Γ p ∧ Tgx Γ.K Γ.cl p i σ H Q)
section
variable {Γ : Gam} {e a b c : Expr} {es rest : List Expr} {ia ib ic i : IE} {ies its : IEs} {pos p0 p1 p2 : Pos} {x f : Str} {n : Nat}
theorem sgx_nil : SGX Γ [] .nil := fun X o => PA_weak pa_nil fun σ H Q q => by
  obtain ⟨p, hp, st, B, M, F, env, ds, st', r, he, k⟩ := q
  unfold agx at he
  cases he
  exact k [] p B H (PExE.refl r.low) (Ex.refl B) r .nil
theorem sgx_cons (he : SE Γ e i) (hr : SGX Γ es ies) (hs : ∀ env, starEach (e :: es) env = (false, eval e env) :: starEach es env := by intro _; rfl) : SGX Γ (e :: es) (.cons i ies) := fun X o => PA_weak (pa_cons (PE_exP (q := fun p => At0 Γ p) fun p hp => he X p (o p hp)) (hr X o) (hs _)) fun σ H Q q => by
  obtain ⟨p, hp, st, B, M, F, env, ds, st', r, he, k⟩ := q
  unfold agx at he
  cases e1 : ev Γ.cl i env st with
  | none =>
    rw [e1] at he
    cases he
  | some zs =>
    obtain ⟨x, st1⟩ := zs
    rw [e1] at he
    cases e2 : agx Γ.cl ies env st1 with
    | none =>
      simp only [e2] at he
      cases he
    | some ys =>
      obtain ⟨ys, st2⟩ := ys
      simp only [e2] at he
      cases he
      exact ⟨p, hp, st, B, M, F, env, x, st1, r, e1, fun v B1 H1 x1 r1 p1 => ⟨p, hp, st1, B1, M, F, env, ys, _, r1, e2, fun vs p2 B2 H2 xe x2 r2 pa => k (v :: vs) p2 B2 H2 xe (x1.trans x2) r2 (.cons (p1.mono x2) pa)⟩⟩
theorem sgx_pool (m : Nat) {y : Str} (hr : SGX Γ es ies) (hN : Γ.N[m]? = some y := by rfl) (hv : Vis Γ.sc y := by first | exact Or.inl rfl | exact Or.inr (Or.inl rfl) | exact Or.inr (Or.inr rfl)) (hd : (y == ("__debug__" : Str)) = false := by decide) (hcd : (y == ("__classdict__" : Str)) = false := by decide)
    (hs : ∀ env, starEach (.Name y pos :: es) env = (false, eval (.Name y pos) env) :: starEach es env := by intro _; rfl) : SGX Γ (.Name y pos :: es) (.pool m ies) := fun X o => by
  have o0 := o ⟨0, 0, noLk, none, false, fun _ => none, tabK Γ.K⟩ ⟨rfl, rfl⟩
  refine PA_weak (pa_cons (pe_var (i := m) (by rw [o0.N]; exact hN) (by rw [o0.sc]; exact hv) hd hcd) (hr X o) (hs _)) fun σ H Q q => ?_
  obtain ⟨p, hp, st, B, M, F, env, ds, st', r, he, k⟩ := q
  unfold agx at he
  split at he
  · rename_i e1
    cases e2 : agx Γ.cl ies env st with
    | none =>
      simp only [e2] at he
      cases he
    | some ys =>
      obtain ⟨ys, st2⟩ := ys
      simp only [e2] at he
      cases he
      exact ⟨_, pl_of r e1, p, hp, st, B, M, F, env, ys, _, r, e2, fun vs p2 B2 H2 xe x2 r2 pa => by
        have z : ArA Γ.K p2 B2 (.ref p2.a :: vs) (none :: ys) := .pool pa
        rw [xe.a] at z
        exact k _ p2 B2 H2 xe x2 r2 z⟩
  · cases he
theorem sgx_cell (m : Nat) {y : Str} (hr : SGX Γ es ies) (hN : Γ.N[m]? = some y := by rfl) (hv : Vis Γ.sc y := by first | exact Or.inl rfl | exact Or.inr (Or.inl rfl) | exact Or.inr (Or.inr rfl)) (hd : (y == ("__debug__" : Str)) = false := by decide) (hcd : (y == ("__classdict__" : Str)) = false := by decide)
    (hs : ∀ env, starEach (.Name y pos :: es) env = (false, eval (.Name y pos) env) :: starEach es env := by intro _; rfl) : SGX Γ (.Name y pos :: es) (.cell m ies) := fun X o => by
  have o0 := o ⟨0, 0, noLk, none, false, fun _ => none, tabK Γ.K⟩ ⟨rfl, rfl⟩
  refine PA_weak (pa_cons (pe_var (i := m) (by rw [o0.N]; exact hN) (by rw [o0.sc]; exact hv) hd hcd) (hr X o) (hs _)) fun σ H Q q => ?_
  obtain ⟨p, hp, st, B, M, F, env, ds, st', r, he, k⟩ := q
  unfold agx at he
  split at he
  · rename_i kk e1
    cases e2 : agx Γ.cl ies env st with
    | none =>
      simp only [e2] at he
      cases he
    | some ys =>
      obtain ⟨ys, st2⟩ := ys
      simp only [e2] at he
      cases he
      obtain ⟨a, xs, es', h1, h2, _⟩ := r.cell e1
      exact ⟨_, h1, p, hp, st, B, M, F, env, ys, _, r, e2, fun vs p2 B2 H2 xe x2 r2 pa => k _ p2 B2 H2 xe x2 r2 (.cell (xe.at_ h2) pa)⟩
  · cases he
theorem sgx_newl (h : SF Γ e i) (hr : SGX Γ es ies) (hs : ∀ env, starEach (e :: es) env = (false, eval e env) :: starEach es env := by intro _; rfl) : SGX Γ (e :: es) (.newl i ies) := fun X o => PA_weak (pa_cons (PE_exP (q := fun p => At0 Γ p) fun p hp => h X p (o p hp)) (hr X o) (hs _)) fun σ H Q q => by
  obtain ⟨p, hp, st, B, M, F, env, ds, st', r, he, k⟩ := q
  unfold agx at he
  split at he
  · rename_i zs st1 e1
    obtain ⟨hf, he⟩ : zs.all flatD = true ∧ _ := by
      by_cases hf : zs.all flatD = true
      · rw [if_pos hf] at he
        exact ⟨hf, he⟩
      · rw [if_neg hf] at he
        cases he
    split at he
    · rename_i ys st2 e2
      cases he
      refine ⟨p, hp, st, B, M, F, env, zs, st1, r, e1, fun a xs B1 H1 x1 h1 h2 h3 h4 h5 h6 r1 => ?_⟩
      have r2 := r1.cnew0 ⟨h1, h2, h3, h4⟩ h5 (rca_flat h6 hf)
      refine ⟨p.add st1.cs.length a, hp, _, B1, M, F, env, ys, _, r2, e2, fun vs p2 B2 H2 xe x2 r3 pa => ?_⟩
      have x0 : PExE p (p.add st1.cs.length a) := ⟨_, r1.low, pex_add p _ a⟩
      exact k _ p2 B2 H2 (x0.trans xe) (x1.trans x2) r3 (.cell (xe.at_ add_new) pa)
    · cases he
  · cases he
theorem callx_se (h : SGX Γ (e :: es) ies) (hh : Γ.hot = false := by rfl) (hf : Γ.fs.contains x = true := by rfl) (hg : GlS Γ.sc x := by rfl) (hdb : (x == ("__debug__" : Str)) = false := by decide)
    (he : ∀ env, starEach (e :: es) env = (false, eval e env) :: starEach es env := by intro _; rfl) (hpl : ∀ env, (backTo pos (starEach es env)).any (·.1) = false := by intro _; rfl) :
    SE Γ (.Call (.Name x p0) (e :: es) [] pos) (.callx x ies) := fun X p o => by
  obtain ⟨fa, fd, ps, k, F, hm, hk, hb, hr⟩ := o.fn hh x (List.contains_iff_mem.mp hf)
  refine PE_weak (pe_call F hr (o.gl hg) hm hk hb .nil passN (h X fun p' hp => o.at_ hh hp.1 (hp.2.trans o.tb.symm)) hdb (he _) (hpl _)) fun σ H Q q => ?_
  obtain ⟨st, B, M, F0, env, d, st', r, he, kk⟩ := q
  unfold ev at he
  split at he
  · rename_i ds st1 e1
    split at he
    · rename_i d2 st2 e2
      cases he
      refine ⟨p, ⟨o.lk hh, o.tb⟩, st, B, M, F0, env, ds, st1, r, e1, fun vs p1 B1 H1 xe x1 r1 pa => ?_⟩
      show spF Γ.K Γ.cl x (vs ++ []) H1 Q E0
      rw [List.append_nil]
      exact ⟨p1.o, st1, B1, uni M F0, ds, d, st2, ⟨rfl, rfl, rfl, (by obtain ⟨_, _, z⟩ := xe; exact z.tb.trans o.tb)⟩, r1.call.o, pa.o, e2, fun v B' H' x2 w pv => kk v B' H' (x1.trans x2) (r.forgetP xe (x1.trans x2) (r1.back x2 w.u)) pv⟩
    · cases he
  · cases he
end
end Ip

set_option Elab.async false
set_option linter.all false
set_option maxRecDepth 100000
set_option maxHeartbeats 4000000
/-! Lists made of such lists; copies; one read out of another; such a list lent as what it holds. -/
namespace Ip
open PySem L2
section
variable {Γ : Gam} {e a b c : Expr} {es es0 rest : List Expr} {ia ib ic i : IE} {ies its : IEs} {pos pos0 p0 p1 p2 p3 : Pos} {x f : Str} {n : Nat}
theorem sgx_newc (h : SGX Γ es0 its) (hr : SGX Γ es ies) (hs : ∀ env, starEach (.List es0 pos0 :: es) env = (false, eval (.List es0 pos0) env) :: starEach es env := by intro _; rfl) : SGX Γ (.List es0 pos0 :: es) (.newc its ies) := fun X o => PA_weak (pa_cons (pe_lst (h X o)) (hr X o) (hs _)) fun σ H Q q => by
  obtain ⟨p, hp, st, B, M, F, env, ds, st', r, he, k⟩ := q
  unfold agx at he
  split at he
  · rename_i os st1 e1
    split at he
    · rename_i zs e2
      by_cases hl : zs.length ≤ most
      · rw [if_pos hl] at he
        split at he
        · rename_i ys st2 e3
          cases he
          refine ⟨p, hp, st, B, M, F, env, os, st1, r, e1, fun vs p1 B1 H1 xe x1 r1 pa => ?_⟩
          have rc := rca_of pa e2
          refine ⟨most_line (by rw [rc.len]; exact hl), fun q hq => ?_⟩
          have f1 := r1.fr hq
          have r2 := (r1.put (o := .lst vs) f1 (.inl hq)).cnew0 f1 upd_same rc
          refine ⟨p1.add st1.cs.length q, (by obtain ⟨_, _, z⟩ := xe; exact ⟨z.lk.trans hp.1, z.tb.trans hp.2⟩), _, B1, M, F, env, ys, _, r2, e3, fun us p2 B2 H2 xe2 x2 r3 pa2 => ?_⟩
          have x0 : PExE p1 (p1.add st1.cs.length q) := ⟨_, r1.low, pex_add p1 _ q⟩
          exact k _ p2 B2 H2 ((xe.trans x0).trans xe2) (x1.trans x2) r3 (.cell (xe2.at_ add_new) pa2)
        · cases he
      · rw [if_neg hl] at he
        cases he
    · cases he
  · cases he
theorem rca_rpa {K : PySem.W.Frag} {B : Hp} {ca : Nat → Option Addr} : ∀ {xs : List V} {ds : List D}, RcA ca xs ds → ds.all flatD = true → RpA K B xs ds
  | _, _, .nil, _ => .nil
  | _, d :: ds, .cons h r, hf => by
    rw [List.all_cons, Bool.and_eq_true_iff] at hf
    exact .cons (h.rp hf.1) (rca_rpa r hf.2)
theorem sgx_copy (m : Nat) {y : Str} (hr : SGX Γ es ies) (hN : Γ.N[m]? = some y := by rfl) (hv : Vis Γ.sc y := by first | exact Or.inl rfl | exact Or.inr (Or.inl rfl) | exact Or.inr (Or.inr rfl)) (hd : (y == ("__debug__" : Str)) = false := by decide) (hcd : (y == ("__classdict__" : Str)) = false := by decide)
    (hb : Γ.bs.contains "list" = true := by rfl) (hg : GlS Γ.sc "list" := by rfl) (hs0 : ∀ env, starEach [.Name y p1] env = (false, eval (.Name y p1) env) :: starEach [] env := by intro _; rfl)
    (hs : ∀ env, starEach (.Call (.Name "list" p0) [.Name y p1] [] pos :: es) env = (false, eval (.Call (.Name "list" p0) [.Name y p1] [] pos) env) :: starEach es env := by intro _; rfl) : SGX Γ (.Call (.Name "list" p0) [.Name y p1] [] pos :: es) (.copy m ies) := fun X o => by
  have o0 := o ⟨0, 0, noLk, none, false, fun _ => none, tabK Γ.K⟩ ⟨rfl, rfl⟩
  refine PA_weak (pa_cons (pe_callTy call_list_of (o0.gl hg) (o0.bl _ (List.contains_iff_mem.mp hb)) (by decide +kernel) (pa_cons (pe_var (i := m) (by rw [o0.N]; exact hN) (by rw [o0.sc]; exact hv) hd hcd) pa_nil (hs0 _)) (by decide) (by decide) (hs0 _) rfl) (hr X o) (hs _)) fun σ H Q q => ?_
  obtain ⟨p, hp, st, B, M, F, env, ds, st', r, he, k⟩ := q
  unfold agx at he
  split at he
  · rename_i kk e1
    split at he
    · rename_i zs e2
      by_cases hf : zs.all flatD = true
      · rw [if_pos hf] at he
        split at he
        · rename_i ys st2 e3
          cases he
          obtain ⟨a, xs, es', h1, h2, h3, h4, h5⟩ := r.cell e1
          rw [e2] at h3
          cases h3
          refine ⟨_, h1, a, xs, rfl, .inl (Or.inl (Or.inl h4)), fun l hl => ?_⟩
          have f1 := r.fr hl
          have r2 := (r.put (o := .lst xs) f1 (.inl hl)).cnew0 f1 upd_same (rca_flat (rca_rpa (K := Γ.K) (B := B) h5 hf) hf)
          refine ⟨p.add st.cs.length l, hp, _, B, M, F, env, ys, _, r2, e3, fun us p2 B2 H2 xe2 x2 r3 pa2 => ?_⟩
          have x0 : PExE p (p.add st.cs.length l) := ⟨_, r.low, pex_add p _ l⟩
          exact k _ p2 B2 H2 (x0.trans xe2) x2 r3 (.cell (xe2.at_ add_new) pa2)
        · cases he
      · rw [if_neg hf] at he
        cases he
    · cases he
  · cases he
theorem RcA.getH {ca : Nat → Option Addr} {k : Nat} : ∀ {xs : List V} {ds : List D} {m : Nat} {n : Int}, RcA (lowc ca k) xs ds → ds[m]? = some (.dict [(.none, .int n)]) → ∃ a, xs[m]? = some (.ref a) ∧ ca n.toNat = some a := fun {xs ds m n} h e => by
  obtain ⟨v, h1, h2⟩ := h.get e
  generalize hd : (PyData.dict [(.none, .int n)]) = d at h2
  cases h2 with
  | cell hk =>
    unfold handle at hd
    cases hd
    refine ⟨_, h1, ?_⟩
    unfold lowc at hk
    split at hk
    · exact hk
    · cases hk
  | _ => cases hd
/-- a name for a list that stands in another -/
theorem Rel.setCe {K : PySem.W.Frag} {p : Pa} {st : Pl} {B M F : Hp} {env : List Sl} {σ : L2.St} {H : Hp} {a : Addr} {k : Nat} (r : Rel K p st B M F env σ H) (hk : p.ca k = some a) (j : Nat) : Rel K p st B M F (env.set j (.ce k)) (σ.set j (some (.ref a))) H := ⟨r.bs, r.m, r.md, r.mc, r.mt, {
  len := by rw [List.length_set, List.length_set]; exact r.en.len
  at_ := fun i s hi => by
    by_cases e : j = i
    · subst e
      have hl : j < env.length := by
        have := (List.getElem?_eq_some_iff.mp hi).1
        rwa [List.length_set] at this
      rw [List.getElem?_set_self hl] at hi
      cases hi
      exact ⟨some (.ref a), List.getElem?_set_self (by rw [← r.en.len]; exact hl), hk⟩
    · rw [List.getElem?_set_ne e] at hi
      obtain ⟨w, h1, h2⟩ := r.en.at_ i s hi
      exact ⟨w, by rw [List.getElem?_set_ne e]; exact h1, h2⟩
  ap := fun i l ds es b hi hl si sl => by
    have ne : ∀ {i : Nat} {ds : List D}, (env.set j (.ce k))[i]? = some (.ow ds) → j ≠ i := fun {i ds} hi e => by
      subst e
      have hl : j < env.length := by
        have := (List.getElem?_eq_some_iff.mp hi).1
        rwa [List.length_set] at this
      rw [List.getElem?_set_self hl] at hi
      cases hi
    have n1 := ne hi
    have n2 := ne hl
    rw [List.getElem?_set_ne n1] at hi si
    rw [List.getElem?_set_ne n2] at hl sl
    exact r.en.ap i l ds es b hi hl si sl
  io := fun i b ds hp hi => by
    by_cases e : j = i
    · subst e
      have hl : j < env.length := by
        have := (List.getElem?_eq_some_iff.mp hi).1
        rwa [List.length_set] at this
      rw [List.getElem?_set_self hl] at hi
      cases hi
    · rw [List.getElem?_set_ne e] at hi ⊢
      exact r.en.io i b ds hp hi }⟩
theorem ss_cal (j n m : Nat) {y : Str} {j0 : Nat} (hN : Γ.N[j]? = some x := by rfl) (hl : Loc Γ.sc x := by first | exact Or.inl rfl | exact Or.inr rfl) (hM : Γ.N[n]? = some y := by rfl) (hv : Vis Γ.sc y := by first | exact Or.inl rfl | exact Or.inr (Or.inl rfl) | exact Or.inr (Or.inr rfl)) (hd : (y == ("__debug__" : Str)) = false := by decide) (hcd : (y == ("__classdict__" : Str)) = false := by decide)
    (hs : ∀ env, swapsWith (.Subscript (.Name y p0) (.Constant (.int (m : Int)) j0 p1) p2) (some (.Name x p3)) pos.line env = pure false := by intro _; rfl) :
    SS Γ (.Assign [.Name x p3] (.Subscript (.Name y p0) (.Constant (.int (m : Int)) j0 p1) p2) pos) (.cal j n m) := fun X p o =>
  PS_weak (ps_set (i := j) (by rw [o.N]; exact o.nd) (by rw [o.N]; exact hN) (by rw [o.sc]; exact hl) (pe_ix ix_list (pe_var (i := n) (by rw [o.N]; exact hM) (by rw [o.sc]; exact hv) hd hcd) pe_int (fun _ _ => rfl)) (hs _) (.inl (o.fnx x))) fun D σ H q => by
    obtain ⟨st, B, M, F, env, out, r, he, kk⟩ := q
    unfold evS at he
    split at he
    · rename_i k e1
      split at he
      · rename_i ds e2
        split at he
        · rename_i w e3
          cases he
          obtain ⟨a, xs, es', h1, h2, h3, h4, h5⟩ := r.cell e1
          rw [e2] at h3
          cases h3
          obtain ⟨b, h6, h7⟩ := h5.getH e3
          refine ⟨_, h1, a, xs, (m : Int), .ref b, rfl, rfl, Or.inl (Or.inl h4), ?_, kk B M _ H (Ex.refl B) (r.setCe h7 j)⟩
          have hl := (List.getElem?_eq_some_iff.mp h6).1
          unfold L2.atI ixN
          rw [if_pos (Int.natCast_nonneg m), if_pos (Int.ofNat_lt.mpr hl)]
          exact h6
        · cases he
      · cases he
    · cases he
end
/-! ### such lists lent as what they hold, the others out of sight -/
def Pa.noCa (p : Pa) : Pa := ⟨p.a, p.q, p.lk, p.io, p.fr, fun _ => none, p.tb⟩
section
variable {K : PySem.W.Frag} {p : Pa} {st : Pl} {B M F : Hp} {env : List Sl} {σ : L2.St} {H : Hp}
open Classical in
noncomputable def hidM (p : Pa) (M H : Hp) : Hp := fun b => if ∃ k, p.ca k = some b then H b else M b
theorem hid_c {k : Nat} {a : Addr} (h : p.ca k = some a) : hidM p M H a = H a := by
  unfold hidM
  rw [if_pos ⟨k, h⟩]
theorem hid_n {a : Addr} (h : ∀ k, p.ca k ≠ some a) : hidM p M H a = M a := by
  unfold hidM
  rw [if_neg (fun ⟨k, hk⟩ => h k hk)]
theorem hid_m (r : Rel K p st B M F env σ H) {a : Addr} {o : HO} (h : M a = some o) : hidM p M H a = some o := by
  rw [hid_n fun k hk => by
    rw [r.mc k a hk] at h
    cases h]
  exact h
theorem hid_of {a : Addr} {o : HO} (h : hidM p M H a = some o) : (M a = some o) ∨ ∃ k, p.ca k = some a ∧ H a = some o := by
  by_cases c : ∃ k, p.ca k = some a
  · obtain ⟨k, hk⟩ := c
    rw [hid_c hk] at h
    exact .inr ⟨k, hk, h⟩
  · rw [hid_n fun k hk => c ⟨k, hk⟩] at h
    exact .inl h
theorem hid_t (r : Rel K p st B M F env σ H) : ∀ q ∈ p.tb, hidM p M H q.1 = none := fun q hq => by
  rw [hid_n fun k hk => by
    obtain ⟨xs, ds, _, q2, _⟩ := r.bs.ce.at_ k _ hk
    exact r.bs.ce.tne hq (.inr ⟨xs, q2⟩) rfl]
  exact r.mt q hq
theorem Rel.hide (r : Rel K p st B M F env σ H) (cs : List (List D)) : Rel K p.noCa { st with cs := [] } B (hidM p M H) F (env.map (calS cs)) σ H where
  bs := ⟨r.bs.b, r.bs.f, r.bs.d, r.bs.pf, r.bs.pb, r.bs.pl, ⟨fun k c h => by (cases h), fun k c h => by (cases h), fun j k c h => by (cases h), r.bs.ce.tn, r.bs.ce.tt⟩⟩
  m := fun b o h => by
    rcases hid_of h with h | ⟨k, _, h⟩
    · exact r.m b o h
    · exact h
  md := fun b o h => by
    rcases hid_of h with h | ⟨k, hk, _⟩
    · exact r.md b o h
    · exact r.bs.ce.b k b hk
  mc := fun k c h => by cases h
  mt := hid_t r
  en := by
    have old : ∀ {i : Nat} {ds : List D}, (env.map (calS cs))[i]? = some (.ow ds) → env[i]? = some (.ow ds) := fun {i ds} hi => by
      rw [List.getElem?_map] at hi
      obtain ⟨s0, h1, h2⟩ := Option.map_eq_some_iff.mp hi
      cases s0 <;> first | (cases h2; exact h1) | cases h2
    refine ⟨by rw [List.length_map]; exact r.en.len, fun i s hi => ?_, fun i j ds es b hi hj si sj => r.en.ap i j ds es b (old hi) (old hj) si sj, fun i b ds hp hi => r.en.io i b ds hp (old hi)⟩
    rw [List.getElem?_map] at hi
    obtain ⟨s0, h1, rfl⟩ := Option.map_eq_some_iff.mp hi
    obtain ⟨o, h2, h3⟩ := r.en.at_ i s0 h1
    refine ⟨o, h2, ?_⟩
    cases s0 with
    | no => exact True.intro
    | ce k => exact True.intro
    | im d =>
      cases o with
      | none => exact h3
      | some v => exact h3
    | ow ds =>
      cases o with
      | none => exact h3
      | some v =>
        cases v with
        | ref a =>
          obtain ⟨xs, g1, g2⟩ := h3
          exact ⟨xs, hid_m r g1, g2⟩
        | _ => exact h3
    | pl =>
      cases o with
      | none => exact h3
      | some v => cases v <;> exact h3
    | er c d => exact h3
/-- an own object that no name speaks of becomes known -/
theorem Rel.knowM (r : Rel K p st B M F env σ H) {a : Addr} {xs : List V} (hm : M a = some (.lst xs)) (hno : ∀ (i : Nat) (ds : List D) (b : Addr), env[i]? = some (.ow ds) → σ[i]? = some (some (.ref b)) → b ≠ a) (hca : p.ca = fun _ => none) : Rel K p st (upd B a (.lst xs)) (lessM M a) F env σ H := by
  obtain ⟨g1, g2, g3⟩ := r.md a _ hm
  have x : Ex B (upd B a (.lst xs)) := Ex.new g1
  refine ⟨⟨fun c u e => ?_, r.bs.f, fun c u e => ?_, r.bs.pf, ?_, ⟨r.bs.pl.1, x _ _ r.bs.pl.2⟩, ⟨fun k c h => by (rw [hca] at h; cases h), fun k c h => by (rw [hca] at h; cases h), fun j k c h => by (rw [hca] at h; cases h), fun q hq => ⟨by rw [upd_ne (fun e => by have z := r.mt q hq; rw [e, hm] at z; cases z)]; exact (r.bs.ce.tn q hq).1, (r.bs.ce.tn q hq).2⟩, r.bs.ce.tt⟩⟩, fun b u h => r.m b u (less_of h).2, fun b u h => ?_, fun k c h => by (rw [hca] at h; cases h), fun q hq => by (rw [less_ne (fun e => by have z := r.mt q hq; rw [e, hm] at z; cases z)]; exact r.mt q hq), ?_⟩
  · by_cases hc : c = a
    · subst hc
      rw [upd_same] at e
      rw [← e]
      exact r.m _ _ hm
    · rw [upd_ne hc] at e
      exact r.bs.b c u e
  · rw [upd_ne (ne_of_none e g2)]
    exact r.bs.d c u e
  · rw [upd_ne (fun e => g3 e.symm)]
    exact r.bs.pb
  · obtain ⟨n1, n2⟩ := less_of h
    rw [upd_ne n1]
    exact r.md b u n2
  · refine ⟨r.en.len, fun i s hi => ?_, r.en.ap, r.en.io⟩
    obtain ⟨o, h1, h2⟩ := r.en.at_ i s hi
    refine ⟨o, h1, ?_⟩
    cases s with
    | no => exact True.intro
    | im d =>
      cases o with
      | none => exact h2
      | some v => exact Rp.mono x h2
    | ow ds =>
      cases o with
      | none => exact h2
      | some v =>
        cases v with
        | ref b =>
          obtain ⟨zs, q1, q2⟩ := h2
          exact ⟨zs, by rw [less_ne (hno i ds b hi h1)]; exact q1, q2.mono x⟩
        | _ => exact h2
    | pl =>
      cases o with
      | none => exact h2
      | some v => cases v <;> exact h2
    | ce k =>
      cases o with
      | none => exact h2
      | some v => cases v <;> exact h2
    | er c d =>
      obtain ⟨a1, dd, f, u, z1, z2, z3, z4⟩ := h2
      exact ⟨a1, dd, f, u, z1, z2, x _ _ z3, z4.mono x⟩
theorem Rel.dat (r : Rel K p st B M F env σ H) : ∀ (is : List Nat) (env1 : List Sl), datE st.cs env is = some env1 → ∃ B1 M1, Ex B B1 ∧ (∀ b u, hidM p M H b = some u → M1 b = some u ∨ B1 b = some u) ∧ Rel K p.noCa { st with cs := [] } B1 M1 F env1 σ H ∧ (∀ (i : Nat) (ds : List D) (b : Addr), env1[i]? = some (.ow ds) → σ[i]? = some (some (.ref b)) → ∀ k, p.ca k ≠ some b)
  | [], env1, h => by
    cases h
    refine ⟨B, _, Ex.refl B, fun b u h => .inl h, r.hide st.cs, fun i ds b hi hs k hk => ?_⟩
    rw [List.getElem?_map] at hi
    obtain ⟨s0, h1, h2⟩ := Option.map_eq_some_iff.mp hi
    have h1 : env[i]? = some (.ow ds) := by cases s0 <;> first | (cases h2; exact h1) | cases h2
    obtain ⟨o, g1, g2⟩ := r.en.at_ i _ h1
    rw [hs] at g1
    cases g1
    obtain ⟨xs, g3, _⟩ := g2
    rw [r.mc k b hk] at g3
    cases g3
  | i :: is, env1, h => by
    unfold datE at h
    split at h
    · rename_i e0 h0
      split at h
      · rename_i s hs
        obtain ⟨z, hz, rfl⟩ := Option.map_eq_some_iff.mp h
        obtain ⟨B1, M1, x1, y1, r1, n1⟩ := Rel.dat r is e0 h0
        unfold datS at hz
        split at hz
        · rename_i k
          split at hz
          · rename_i ds hk
            by_cases hf : ds.all flatD = true
            · rw [if_pos hf] at hz
              cases hz
              obtain ⟨a, xs, es, q1, q2, q3, q4, q5⟩ := r.cell hs
              rw [hk] at q3
              cases q3
              have fin : ∀ {B2 M2 : Hp}, Rel K p.noCa { st with cs := [] } B2 M2 F e0 σ H → B2 a = some (.lst xs) → Rel K p.noCa { st with cs := [] } B2 M2 F (e0.set i (.im (.list ds))) σ H := fun {B2 M2} r2 hb => by
                have r3 := r2.set (v := .ref a) (d := .list ds) (.lst hb (rca_rpa q5 hf)) i
                have e2 : σ.set i (some (.ref a)) = σ := by
                  apply List.ext_getElem?
                  intro j
                  by_cases e : i = j
                  · subst e
                    rw [q1, List.getElem?_set_self (List.getElem?_eq_some_iff.mp q1).1]
                  · rw [List.getElem?_set_ne e]
                rw [e2] at r3
                exact r3
              have nn : ∀ (j : Nat) (es : List D) (b : Addr), (e0.set i (.im (.list ds)))[j]? = some (.ow es) → σ[j]? = some (some (.ref b)) → ∀ k, p.ca k ≠ some b := fun j es b hj sj => by
                by_cases e : i = j
                · subst e
                  have hl : i < e0.length := by
                    have := (List.getElem?_eq_some_iff.mp hj).1
                    rwa [List.length_set] at this
                  rw [List.getElem?_set_self hl] at hj
                  cases hj
                · rw [List.getElem?_set_ne e] at hj
                  exact n1 j es b hj sj
              rcases y1 a _ (by rw [hid_c q2]; exact q4) with c1 | c1
              · have r2 := r1.knowM c1 (fun j es b hj sj e => n1 j es b hj sj k (by rw [e]; exact q2)) rfl
                refine ⟨_, _, x1.trans (Ex.new (r1.md a _ c1).1), fun b u hb => ?_, fin r2 upd_same, nn⟩
                by_cases e : b = a
                · subst e
                  rw [hid_c q2, q4] at hb
                  cases hb
                  exact .inr upd_same
                · rcases y1 b u hb with c2 | c2
                  · exact .inl (by rw [less_ne e]; exact c2)
                  · exact .inr (by rw [upd_ne e]; exact c2)
              · exact ⟨B1, M1, x1, y1, fin r1 c1, nn⟩
            · rw [if_neg hf] at hz
              cases hz
          · cases hz
        · cases hz
      · cases h
    · cases h
end
theorem rp_flat {K : PySem.W.Frag} {B B' : Hp} {v : V} {d : D} (h : Rp K B v d) (hf : flatD d = true) : Rp K B' v d := by
  cases h with
  | non => exact .non
  | bl b => exact .bl b
  | int i => exact .int i
  | str s => exact .str s
  | lst _ _ => exact absurd hf (by simp [flatD])
  | tup _ _ => exact absurd hf (by simp [flatD])
theorem lentc_se {Γ : Gam} {e : Expr} {i : IE} (is : List Nat) (h : SE Γ e i) (hh : Γ.hot = false := by rfl) : SE Γ e (.lentc is i) := fun X p o => PE_weak (h X p.noCa (o.at_ hh (o.lk hh) rfl)) fun σ H Q q => by
  obtain ⟨st, B, M, F, env, d, st', r, he, kk⟩ := q
  unfold ev at he
  split at he
  · rename_i env1 e0
    obtain ⟨B1, M1, x1, y1, r1, _⟩ := r.dat is env1 e0
    split at he
    · rename_i y st1 e1
      by_cases hf : flatD y = true
      · rw [if_pos hf] at he
        cases he
        refine ⟨_, B1, M1, F, env1, d, st1, r1, e1, fun v B' H' x r' pv => ?_⟩
        have mb : ∀ b u, B b = some u → hidM p M H b = none := fun b u hb => by
          cases hm : hidM p M H b with
          | none => rfl
          | some w =>
            rcases hid_of hm with z | ⟨k, hk, _⟩
            · rw [(r.md b w z).1] at hb
              cases hb
            · rw [(r.bs.ce.b k b hk).1] at hb
              cases hb
        have x' : Ex B (fun b => match hidM p M H b with | some _ => none | none => B' b) := fun b u hb => by
          show (match hidM p M H b with | some _ => none | none => B' b) = _
          rw [mb b u hb]
          exact x b u (x1 b u hb)
        have le : ∀ b u, (match hidM p M H b with | some _ => none | none => B' b) = some u → B' b = some u := fun b u hb => by
          cases hm : hidM p M H b with
          | none =>
            rw [hm] at hb
            exact hb
          | some w =>
            rw [hm] at hb
            cases hb
        have st_ : ∀ b u, hidM p M H b = some u → H' b = some u := fun b u hb => by
          rcases y1 b u hb with c | c
          · exact r'.m b u c
          · exact r'.bs.b b u (x b u c)
        refine kk v _ H' x' ?_ (rp_flat pv hf)
        refine ⟨⟨fun b u hb => r'.bs.b b u (le b u hb), r'.bs.f, fun b u hb => ?_, r'.bs.pf, ?_, ⟨r'.bs.pl.1, x' _ _ r.bs.pl.2 |>.trans ?_⟩, ⟨fun k a hk => ?_, fun k a hk => ?_, r.bs.ce.inj, fun q hq => ⟨by show (match hidM p M H q.1 with | some _ => none | none => B' q.1) = none; rw [hid_t r q hq]; exact (r'.bs.ce.tn q hq).1, (r.bs.ce.tn q hq).2⟩, r'.bs.ce.tt⟩⟩, fun b u hb => st_ b u (hid_m r hb), fun b u hb => ⟨?_, (r.md b u hb).2⟩, r.mc, r.mt, r.en.mono x'⟩
        · show (match hidM p M H b with | some _ => none | none => B' b) = none
          have := r'.bs.d b u hb
          cases hidM p M H b with
          | none => exact this
          | some w => rfl
        · show (match hidM p M H p with | some _ => none | none => B' p) = none
          have := r'.bs.pb
          cases hidM p M H p with
          | none => exact this
          | some w => rfl
        · have z1 := r'.bs.pl.2
          have z2 : B' p.q = some _ := x _ _ (x1 _ _ r.bs.pl.2)
          have z1 : B' p.q = some (.lst (st1.ns.map V.int)) := z1
          rw [z2] at z1
          exact z1
        · obtain ⟨xs, ds, q1, q2, q3⟩ := r.bs.ce.at_ k a hk
          exact ⟨xs, ds, q1, st_ a _ (by rw [hid_c hk]; exact q2), q3⟩
        · obtain ⟨xs, ds, q1, q2, q3⟩ := r.bs.ce.at_ k a hk
          refine ⟨?_, (r.bs.ce.b k a hk).2⟩
          show (match hidM p M H a with | some _ => none | none => B' a) = none
          rw [hid_c hk, q2]
        · show (match hidM p M H b with | some _ => none | none => B' b) = none
          rw [hid_m r hb]
      · rw [if_neg hf] at he
        cases he
    · cases he
  · cases he
end Ip

set_option Elab.async false
set_option linter.all false
set_option maxRecDepth 100000
set_option maxHeartbeats 4000000
namespace Ip
open PySem L2
/-! One step of the evaluator, each form by its own rule. -/
def fb (cl : Cl) (j : Sg) (b : ISs) : D → List Sl → Pl → Option Out := fun d env st => match sgD j d env with
  | some env1 => evSs cl b env1 st
  | none => none
theorem fb_eq (cl : Cl) (j : Sg) (b : ISs) (d : D) (env : List Sl) (st : Pl) : fb cl j b d env st = match sgD j d env with
  | some env1 => evSs cl b env1 st
  | none => none := id rfl
def lb (cl : Cl) (j : Nat) (cs : IEs) (e : IE) (env : List Sl) : D → Pl → Option (Option D × Pl) := fun d st => match et cl cs (env.set j (.im d)) st with
  | some (true, st2) => (match ev cl e (env.set j (.im d)) st2 with
    | some (y, st3) => some (some y, st3)
    | none => none)
  | some (false, st2) => some (none, st2)
  | none => none
theorem lb_eq (cl : Cl) (j : Nat) (cs : IEs) (e : IE) (env : List Sl) (d : D) (st : Pl) : lb cl j cs e env d st = match et cl cs (env.set j (.im d)) st with
  | some (true, st2) => (match ev cl e (env.set j (.im d)) st2 with
    | some (y, st3) => some (some y, st3)
    | none => none)
  | some (false, st2) => some (none, st2)
  | none => none := id rfl
def lbm (cl : Cl) (js : List Nat) (cs : IEs) (e : IE) (env : List Sl) : D → Pl → Option (Option D × Pl) := fun d st =>
  match itD d with
  | some zs => (match setMany js zs env with
    | some env1 => (match et cl cs env1 st with
      | some (true, st2) => (match ev cl e env1 st2 with
        | some (y, st3) => some (some y, st3)
        | none => none)
      | some (false, st2) => some (none, st2)
      | none => none)
    | none => none)
  | none => none
theorem lbm_eq (cl : Cl) (js : List Nat) (cs : IEs) (e : IE) (env : List Sl) (d : D) (st : Pl) : lbm cl js cs e env d st =
  (match itD d with
  | some zs => (match setMany js zs env with
    | some env1 => (match et cl cs env1 st with
      | some (true, st2) => (match ev cl e env1 st2 with
        | some (y, st3) => some (some y, st3)
        | none => none)
      | some (false, st2) => some (none, st2)
      | none => none)
    | none => none)
  | none => none) := id rfl
variable {cl : Cl}
@[simp] theorem q_ev_var {i} {env : List Sl} {st : Pl} : ev cl (.var i : IE) env st = (match env[i]? with
    | some (.im d) => some (d, st)
    | _ => none) := id rfl
@[simp] theorem q_ev_cst {c} {env : List Sl} {st : Pl} : ev cl (.cst c : IE) env st = some (c.d, st) := id rfl
@[simp] theorem q_ev_call {f as} {env : List Sl} {st : Pl} : ev cl (.call f as : IE) env st = (match ag cl as env st with
    | some (ds, st1) => cl f ds st1
    | none => none) := id rfl
@[simp] theorem q_ev_bi {f as} {env : List Sl} {st : Pl} : ev cl (.bi f as : IE) env st = (match ea cl as env st with
    | some (ds, st1) => (biD f ds).map fun d => (d, st1)
    | none => none) := id rfl
@[simp] theorem q_ev_bin {o a b} {env : List Sl} {st : Pl} : ev cl (.bin o a b : IE) env st = (match ev cl a env st with
    | some (x, st1) => (match ev cl b env st1 with
      | some (y, st2) => (binD o x y).map fun d => (d, st2)
      | none => none)
    | none => none) := id rfl
@[simp] theorem q_ev_cmp {o a b} {env : List Sl} {st : Pl} : ev cl (.cmp o a b : IE) env st = (match ev cl a env st with
    | some (x, st1) => (match ev cl b env st1 with
      | some (y, st2) => (cmpD o x y).map fun d => (.bool d, st2)
      | none => none)
    | none => none) := id rfl
@[simp] theorem q_ev_and {a b} {env : List Sl} {st : Pl} : ev cl (.and a b : IE) env st = (match ev cl a env st with
    | some (.bool true, st1) => ev cl b env st1
    | some (.bool false, st1) => some (.bool false, st1)
    | _ => none) := id rfl
@[simp] theorem q_ev_or {a b} {env : List Sl} {st : Pl} : ev cl (.or a b : IE) env st = (match ev cl a env st with
    | some (.bool true, st1) => some (.bool true, st1)
    | some (.bool false, st1) => ev cl b env st1
    | _ => none) := id rfl
@[simp] theorem q_ev_not {a} {env : List Sl} {st : Pl} : ev cl (.not a : IE) env st = (match ev cl a env st with
    | some (.bool b, st1) => some (.bool (!b), st1)
    | _ => none) := id rfl
@[simp] theorem q_ev_neg {a} {env : List Sl} {st : Pl} : ev cl (.neg a : IE) env st = (match ev cl a env st with
    | some (.int i, st1) => some (.int (-i), st1)
    | _ => none) := id rfl
@[simp] theorem q_ev_tup {es} {env : List Sl} {st : Pl} : ev cl (.tup es : IE) env st = (match ea cl es env st with
    | some (ds, st1) => if ds.length ≤ most then some (.tuple ds, st1) else none
    | none => none) := id rfl
@[simp] theorem q_ev_lst {es} {env : List Sl} {st : Pl} : ev cl (.lst es : IE) env st = (match ea cl es env st with
    | some (ds, st1) => if ds.length ≤ most then some (.list ds, st1) else none
    | none => none) := id rfl
@[simp] theorem q_ev_ix {a b} {env : List Sl} {st : Pl} : ev cl (.ix a b : IE) env st = (match ev cl a env st with
    | some (x, st1) => (match ev cl b env st1 with
      | some (y, st2) => (ixD x y).map fun d => (d, st2)
      | none => none)
    | none => none) := id rfl
@[simp] theorem q_ev_sl {a lo hi} {env : List Sl} {st : Pl} : ev cl (.sl a lo hi : IE) env st = (match ev cl a env st with
    | some (x, st1) => (match eo cl lo env st1 with
      | some (l, st2) => (match eo cl hi env st2 with
        | some (h, st3) => (slD x l h).map fun d => (d, st3)
        | none => none)
      | none => none)
    | none => none) := id rfl
@[simp] theorem q_ev_ifx {c a b} {env : List Sl} {st : Pl} : ev cl (.ifx c a b : IE) env st = (match ev cl c env st with
    | some (.bool true, st1) => ev cl a env st1
    | some (.bool false, st1) => ev cl b env st1
    | _ => none) := id rfl
@[simp] theorem q_ev_lc {j it cs e} {env : List Sl} {st : Pl} : ev cl (.lc j it cs e : IE) env st = (match ei cl it env st with
    | some (ds, st1) => if ds.length ≤ most then (match lcG (lb cl j cs e env) ds st1 with
      | some (ys, st4) => some (.list ys, st4)
      | none => none) else none
    | none => none) := id rfl
@[simp] theorem q_ev_olen {i} {env : List Sl} {st : Pl} : ev cl (.olen i : IE) env st = (match env[i]? with
    | some (.ow ds) => some (.int ds.length, st)
    | some (.im d) => (biD .len [d]).map fun z => (z, st)
    | _ => none) := id rfl
@[simp] theorem q_ev_pix {i k} {env : List Sl} {st : Pl} : ev cl (.pix i k : IE) env st = (match env[i]? with
    | some .pl => (st.at_ k).map fun n => (.int n, st)
    | _ => none) := id rfl
@[simp] theorem q_ev_pcel {i} {env : List Sl} {st : Pl} : ev cl (.pcel i : IE) env st = (match env[i]? with
    | some .pl => (atI st.ns st.i).map fun n => (.int n, st)
    | _ => none) := id rfl
@[simp] theorem q_ev_isi {t e} {env : List Sl} {st : Pl} : ev cl (.isi t e : IE) env st = (match ev cl e env st with
    | some (x, st1) => some (.bool (isiD t x), st1)
    | none => none) := id rfl
@[simp] theorem q_ev_lent {is e} {env : List Sl} {st : Pl} : ev cl (.lent is e : IE) env st = (match ev cl e (frzE env is) st with
    | some (x, st1) => if flatD x = true then some (x, st1) else none
    | none => none) := id rfl
@[simp] theorem q_ev_chn {o1 o2 a b c} {env : List Sl} {st : Pl} : ev cl (.chn o1 o2 a b c : IE) env st = (match ev cl a env st with
    | some (x, st1) => (match ev cl b env st1 with
      | some (y, st2) => (match cmpD o1 x y with
        | some true => (match ev cl c env st2 with
          | some (z, st3) => (cmpD o2 y z).map fun d => (.bool d, st3)
          | none => none)
        | some false => some (.bool false, st2)
        | none => none)
      | none => none)
    | none => none) := id rfl
@[simp] theorem q_ev_js {es} {env : List Sl} {st : Pl} : ev cl (.js es : IE) env st = (match ea cl es env st with
    | some (ds, st1) => (joinD ds Str.empty).map fun s => (.str s, st1)
    | none => none) := id rfl
@[simp] theorem q_ev_rev {e} {env : List Sl} {st : Pl} : ev cl (.rev e : IE) env st = (match ev cl e env st with
    | some (.list xs, st1) => some (.list xs.reverse, st1)
    | _ => none) := id rfl
@[simp] theorem q_ev_con {d} {env : List Sl} {st : Pl} : ev cl (.con d : IE) env st = some (d, st) := id rfl
@[simp] theorem q_ev_qt {e} {env : List Sl} {st : Pl} : ev cl (.qt e : IE) env st = ev cl e env st := id rfl
@[simp] theorem q_ev_calld {f as cs} {env : List Sl} {st : Pl} : ev cl (.calld f as cs : IE) env st = (match ag cl as env st with
    | some (ds, st1) => cl f (ds ++ cs.map fun c => some c.d) st1
    | none => none) := id rfl
@[simp] theorem q_ev_me0 {m e} {env : List Sl} {st : Pl} : ev cl (.me0 m e : IE) env st = (match ev cl e env st with
    | some (x, st1) => (m0D m x).map fun d => (d, st1)
    | none => none) := id rfl
@[simp] theorem q_ev_me1 {m a b} {env : List Sl} {st : Pl} : ev cl (.me1 m a b : IE) env st = (match ev cl a env st with
    | some (x, st1) => (match ev cl b env st1 with
      | some (y, st2) => (m1D m x y).map fun d => (d, st2)
      | none => none)
    | none => none) := id rfl
@[simp] theorem q_ev_exf {j cs} {env : List Sl} {st : Pl} : ev cl (.exf j cs : IE) env st = (match env[j]? with
    | some (.er c v) => if c ∈ cs then some (v, st) else none
    | _ => none) := id rfl
@[simp] theorem q_ev_exi {j cs yes} {env : List Sl} {st : Pl} : ev cl (.exi j cs yes : IE) env st = (match env[j]? with
    | some (.er c _) => if c ∈ cs then some (.bool (decide (c ∈ yes)), st) else none
    | _ => none) := id rfl
@[simp] theorem q_ev_tsr {i} {env : List Sl} {st : Pl} : ev cl (.tsr i : IE) env st = (match env[i]? with
    | some (.ow ds) => (srtD ds).map fun z => (z, st)
    | _ => none) := id rfl
@[simp] theorem q_ev_callx {f as} {env : List Sl} {st : Pl} : ev cl (.callx f as : IE) env st = (match agx cl as env st with
    | some (ds, st1) => (match cl f ds st1 with
      | some (d, st2) => some (d, { st2 with cs := st2.cs.take st.cs.length })
      | none => none)
    | none => none) := id rfl
@[simp] theorem q_ev_lentc {is e} {env : List Sl} {st : Pl} : ev cl (.lentc is e : IE) env st = (match datE st.cs env is with
    | some env1 => (match ev cl e env1 { st with cs := [] } with
      | some (x, st1) => if flatD x = true then some (x, { st1 with cs := st.cs }) else none
      | none => none)
    | none => none) := id rfl
@[simp] theorem q_ev_clen {i} {env : List Sl} {st : Pl} : ev cl (.clen i : IE) env st = (match env[i]? with
    | some (.ce k) => (match st.cs[k]? with
      | some ds => some (.int ds.length, st)
      | none => none)
    | _ => none) := id rfl
@[simp] theorem q_ev_cix {i e} {env : List Sl} {st : Pl} : ev cl (.cix i e : IE) env st = (match ev cl e env st with
    | some (.int n, st1) => (match env[i]? with
      | some (.ce k) => (match st1.cs[k]? with
        | some ds => (match atI ds n with
          | some d => if flatD d = true then some (d, st1) else none
          | none => none)
        | none => none)
      | _ => none)
    | _ => none) := id rfl
@[simp] theorem q_ev_stop  {env : List Sl} {st : Pl} : ev cl (.stop : IE) env st = none := id rfl
@[simp] theorem q_ev_mx2 {a b} {env : List Sl} {st : Pl} : ev cl (.mx2 a b : IE) env st = (match ev cl a env st with
    | some (.int x, st1) => (match ev cl b env st1 with
      | some (.int y, st2) => some (.int (if y > x then y else x), st2)
      | _ => none)
    | _ => none) := id rfl
@[simp] theorem q_ev_mn2 {a b} {env : List Sl} {st : Pl} : ev cl (.mn2 a b : IE) env st = (match ev cl a env st with
    | some (.int x, st1) => (match ev cl b env st1 with
      | some (.int y, st2) => some (.int (if y < x then y else x), st2)
      | _ => none)
    | _ => none) := id rfl
@[simp] theorem q_ev_mxl {e d} {env : List Sl} {st : Pl} : ev cl (.mxl e d : IE) env st = (match ev cl e env st with
    | some (.list xs, st1) => (match intsD xs with
      | some ns => (maxI ns d).map fun n => (.int n, st1)
      | none => none)
    | _ => none) := id rfl
@[simp] theorem q_ev_srt {e} {env : List Sl} {st : Pl} : ev cl (.srt e : IE) env st = (match ev cl e env st with
    | some (.list xs, st1) => if sortOk xs = true then some (.list (srtA xs), st1) else none
    | _ => none) := id rfl
@[simp] theorem q_ev_tru {e} {env : List Sl} {st : Pl} : ev cl (.tru e : IE) env st = (match ev cl e env st with
    | some (x, st1) => (truD x).map fun b => (.bool b, st1)
    | none => none) := id rfl
@[simp] theorem q_ev_rep {a b} {env : List Sl} {st : Pl} : ev cl (.rep a b : IE) env st = (match ev cl a env st with
    | some (.list xs, st1) => (match ev cl b env st1 with
      | some (.int k, st2) => if -(2 ^ 62) ≤ k ∧ k < 2 ^ 62 ∧ xs.length * k.toNat ≤ most then some (.list (List.replicate k.toNat xs).flatten, st2) else none
      | _ => none)
    | _ => none) := id rfl
@[simp] theorem q_ev_lcm {js it cs e} {env : List Sl} {st : Pl} : ev cl (.lcm js it cs e : IE) env st = (match ei cl it env st with
    | some (ds, st1) => if ds.length ≤ most then (match lcG (lbm cl js cs e env) ds st1 with
      | some (ys, st4) => some (.list ys, st4)
      | none => none) else none
    | none => none) := id rfl
@[simp] theorem q_ev_plen {i} {env : List Sl} {st : Pl} : ev cl (.plen i : IE) env st = (match env[i]? with
    | some .pl => some (.int st.ns.length, st)
    | _ => none) := id rfl
@[simp] theorem q_ev_fmt {sp e} {env : List Sl} {st : Pl} : ev cl (.fmt sp e : IE) env st = (match ev cl e env st with
    | some (x, st1) => (fmtD sp x).map fun s => (.str s, st1)
    | none => none) := id rfl
@[simp] theorem q_ev_kin {neg tab e} {env : List Sl} {st : Pl} : ev cl (.kin neg tab e : IE) env st = (match ev cl e env st with
    | some (.str s, st1) => some (.bool (neg != (tab.lookup s).isSome), st1)
    | _ => none) := id rfl
@[simp] theorem q_ev_kget {tab e} {env : List Sl} {st : Pl} : ev cl (.kget tab e : IE) env st = (match ev cl e env st with
    | some (.str s, st1) => (tab.lookup s).map fun d => (d, st1)
    | _ => none) := id rfl
@[simp] theorem q_ev_mink {e ib} {env : List Sl} {st : Pl} : ev cl (.mink e ib : IE) env st = (match ev cl e env st with
    | some (.list xs, st1) => (match keysK (fun d => ev cl ib [.im d] st1) st1 xs with
      | some ks => (minK xs ks).map fun d => (d, st1)
      | none => none)
    | _ => none) := id rfl
@[simp] theorem q_ea_nil  {env : List Sl} {st : Pl} : ea cl (.nil : IEs) env st = some ([], st) := id rfl
@[simp] theorem q_ea_cons {e es} {env : List Sl} {st : Pl} : ea cl (.cons e es : IEs) env st = (match ev cl e env st with
    | some (x, st1) => (match ea cl es env st1 with
      | some (xs, st2) => some (x :: xs, st2)
      | none => none)
    | none => none) := id rfl
@[simp] theorem q_ea_pool {u1 u2} {env : List Sl} {st : Pl} : ea cl (.pool u1 u2 : IEs) env st = none := id rfl
@[simp] theorem q_ea_cell {u1 u2} {env : List Sl} {st : Pl} : ea cl (.cell u1 u2 : IEs) env st = none := id rfl
@[simp] theorem q_ea_newl {u1 u2} {env : List Sl} {st : Pl} : ea cl (.newl u1 u2 : IEs) env st = none := id rfl
@[simp] theorem q_ea_newc {u1 u2} {env : List Sl} {st : Pl} : ea cl (.newc u1 u2 : IEs) env st = none := id rfl
@[simp] theorem q_ea_copy {u1 u2} {env : List Sl} {st : Pl} : ea cl (.copy u1 u2 : IEs) env st = none := id rfl
@[simp] theorem q_ag_nil  {env : List Sl} {st : Pl} : ag cl (.nil : IEs) env st = some ([], st) := id rfl
@[simp] theorem q_ag_cons {e es} {env : List Sl} {st : Pl} : ag cl (.cons e es : IEs) env st = (match ev cl e env st with
    | some (x, st1) => (match ag cl es env st1 with
      | some (xs, st2) => some (some x :: xs, st2)
      | none => none)
    | none => none) := id rfl
@[simp] theorem q_ag_pool {i es} {env : List Sl} {st : Pl} : ag cl (.pool i es : IEs) env st = (match env[i]? with
    | some .pl => (match ag cl es env st with
      | some (xs, st2) => some (none :: xs, st2)
      | none => none)
    | _ => none) := id rfl
@[simp] theorem q_ag_cell {i es} {env : List Sl} {st : Pl} : ag cl (.cell i es : IEs) env st = (match env[i]? with
    | some (.ce k) => (match ag cl es env st with
      | some (xs, st2) => some (some (handle k) :: xs, st2)
      | none => none)
    | _ => none) := id rfl
@[simp] theorem q_ag_newl {u1 u2} {env : List Sl} {st : Pl} : ag cl (.newl u1 u2 : IEs) env st = none := id rfl
@[simp] theorem q_ag_newc {u1 u2} {env : List Sl} {st : Pl} : ag cl (.newc u1 u2 : IEs) env st = none := id rfl
@[simp] theorem q_ag_copy {u1 u2} {env : List Sl} {st : Pl} : ag cl (.copy u1 u2 : IEs) env st = none := id rfl
@[simp] theorem q_agx_nil  {env : List Sl} {st : Pl} : agx cl (.nil : IEs) env st = some ([], st) := id rfl
@[simp] theorem q_agx_cons {e es} {env : List Sl} {st : Pl} : agx cl (.cons e es : IEs) env st = (match ev cl e env st with
    | some (x, st1) => (match agx cl es env st1 with
      | some (xs, st2) => some (some x :: xs, st2)
      | none => none)
    | none => none) := id rfl
@[simp] theorem q_agx_pool {i es} {env : List Sl} {st : Pl} : agx cl (.pool i es : IEs) env st = (match env[i]? with
    | some .pl => (match agx cl es env st with
      | some (xs, st2) => some (none :: xs, st2)
      | none => none)
    | _ => none) := id rfl
@[simp] theorem q_agx_cell {i es} {env : List Sl} {st : Pl} : agx cl (.cell i es : IEs) env st = (match env[i]? with
    | some (.ce k) => (match agx cl es env st with
      | some (xs, st2) => some (some (handle k) :: xs, st2)
      | none => none)
    | _ => none) := id rfl
@[simp] theorem q_agx_newl {e es} {env : List Sl} {st : Pl} : agx cl (.newl e es : IEs) env st = (match ev cl e env st with
    | some (.list ds, st1) => if ds.all flatD = true then (match agx cl es env { st1 with cs := st1.cs ++ [ds] } with
      | some (xs, st2) => some (some (handle st1.cs.length) :: xs, st2)
      | none => none) else none
    | _ => none) := id rfl
@[simp] theorem q_agx_newc {its es} {env : List Sl} {st : Pl} : agx cl (.newc its es : IEs) env st = (match agx cl its env st with
    | some (os, st1) => (match cellD os with
      | some ds => if ds.length ≤ most then (match agx cl es env { st1 with cs := st1.cs ++ [ds] } with
        | some (xs, st2) => some (some (handle st1.cs.length) :: xs, st2)
        | none => none) else none
      | none => none)
    | none => none) := id rfl
@[simp] theorem q_agx_copy {i es} {env : List Sl} {st : Pl} : agx cl (.copy i es : IEs) env st = (match env[i]? with
    | some (.ce k) => (match st.cs[k]? with
      | some ds => if ds.all flatD = true then (match agx cl es env { st with cs := st.cs ++ [ds] } with
        | some (xs, st2) => some (some (handle st.cs.length) :: xs, st2)
        | none => none) else none
      | none => none)
    | _ => none) := id rfl
@[simp] theorem q_et_nil  {env : List Sl} {st : Pl} : et cl (.nil : IEs) env st = some (true, st) := id rfl
@[simp] theorem q_et_cons {e es} {env : List Sl} {st : Pl} : et cl (.cons e es : IEs) env st = (match ev cl e env st with
    | some (.bool true, st1) => et cl es env st1
    | some (.bool false, st1) => some (false, st1)
    | _ => none) := id rfl
@[simp] theorem q_et_pool {u1 u2} {env : List Sl} {st : Pl} : et cl (.pool u1 u2 : IEs) env st = none := id rfl
@[simp] theorem q_et_cell {u1 u2} {env : List Sl} {st : Pl} : et cl (.cell u1 u2 : IEs) env st = none := id rfl
@[simp] theorem q_et_newl {u1 u2} {env : List Sl} {st : Pl} : et cl (.newl u1 u2 : IEs) env st = none := id rfl
@[simp] theorem q_et_newc {u1 u2} {env : List Sl} {st : Pl} : et cl (.newc u1 u2 : IEs) env st = none := id rfl
@[simp] theorem q_et_copy {u1 u2} {env : List Sl} {st : Pl} : et cl (.copy u1 u2 : IEs) env st = none := id rfl
@[simp] theorem q_eo_non  {env : List Sl} {st : Pl} : eo cl (.non : IO) env st = some (none, st) := id rfl
@[simp] theorem q_eo_some {e} {env : List Sl} {st : Pl} : eo cl (.some e : IO) env st = (match ev cl e env st with
    | some (.int i, st1) => some (some i, st1)
    | _ => none) := id rfl
@[simp] theorem q_ei_seq {e} {env : List Sl} {st : Pl} : ei cl (.seq e : IT) env st = (match ev cl e env st with
    | some (x, st1) => (itS x).map fun xs => (xs, st1)
    | none => none) := id rfl
@[simp] theorem q_ei_rng1 {e} {env : List Sl} {st : Pl} : ei cl (.rng1 e : IT) env st = (match ev cl e env st with
    | some (.int n, st1) => (rngD 0 n).map fun xs => (xs, st1)
    | _ => none) := id rfl
@[simp] theorem q_ei_rng2 {a b} {env : List Sl} {st : Pl} : ei cl (.rng2 a b : IT) env st = (match ev cl a env st with
    | some (.int lo, st1) => (match ev cl b env st1 with
      | some (.int hi, st2) => (rngD lo hi).map fun xs => (xs, st2)
      | _ => none)
    | _ => none) := id rfl
@[simp] theorem q_ei_rng3 {a b} {env : List Sl} {st : Pl} : ei cl (.rng3 a b : IT) env st = (match ev cl a env st with
    | some (.int lo, st1) => (match ev cl b env st1 with
      | some (.int hi, st2) => (rngN lo hi).map fun xs => (xs, st2)
      | _ => none)
    | _ => none) := id rfl
@[simp] theorem q_ei_enm {e} {env : List Sl} {st : Pl} : ei cl (.enm e : IT) env st = (match ev cl e env st with
    | some (x, st1) => (itD x).map fun xs => (enD 0 xs, st1)
    | none => none) := id rfl
@[simp] theorem q_ei_zp {a b} {env : List Sl} {st : Pl} : ei cl (.zp a b : IT) env st = (match ev cl a env st with
    | some (x, st1) => (match ev cl b env st1 with
      | some (y, st2) => (match itD x with
        | some xs => (itD y).map fun ys => (zpD xs ys, st2)
        | none => none)
      | none => none)
    | none => none) := id rfl
@[simp] theorem q_xv_call {f as} {env : List Sl} {st : Pl} : xv cl (.call f as : IE) env st = (match ag cl as env st with
    | some (ds, st1) => (match cl (bang f) ds st1 with
      | some (d, st2) => (erOf d).map fun er => (er, st2)
      | none => none)
    | none => none) := id rfl
@[simp] theorem q_xv_calld {f as cs} {env : List Sl} {st : Pl} : xv cl (.calld f as cs : IE) env st = (match ag cl as env st with
    | some (ds, st1) => (match cl (bang f) (ds ++ cs.map fun c => some c.d) st1 with
      | some (d, st2) => (erOf d).map fun er => (er, st2)
      | none => none)
    | none => none) := id rfl
@[simp] theorem q_xv_bin {u1 a b} {env : List Sl} {st : Pl} : xv cl (.bin u1 a b : IE) env st = (match xv cl a env st with
    | some r => some r
    | none => (match ev cl a env st with
      | some (_, st1) => xv cl b env st1
      | none => none)) := id rfl
@[simp] theorem q_xv_cmp {u1 a b} {env : List Sl} {st : Pl} : xv cl (.cmp u1 a b : IE) env st = (match xv cl a env st with
    | some r => some r
    | none => (match ev cl a env st with
      | some (_, st1) => xv cl b env st1
      | none => none)) := id rfl
@[simp] theorem q_xv_not {a} {env : List Sl} {st : Pl} : xv cl (.not a : IE) env st = xv cl a env st := id rfl
@[simp] theorem q_xv_lent {is e} {env : List Sl} {st : Pl} : xv cl (.lent is e : IE) env st = xv cl e (frzE env is) st := id rfl
@[simp] theorem q_evS_set {i e} {env : List Sl} {st : Pl} : evS cl (.set i e : IS) env st = (match ev cl e env st with
    | some (x, st1) => some (.nx (env.set i (.im x)) st1)
    | none => none) := id rfl
@[simp] theorem q_evS_own {i e} {env : List Sl} {st : Pl} : evS cl (.own i e : IS) env st = (match ev cl e env st with
    | some (.list xs, st1) => some (.nx (env.set i (.ow xs)) st1)
    | _ => none) := id rfl
@[simp] theorem q_evS_unp {js e} {env : List Sl} {st : Pl} : evS cl (.unp js e : IS) env st = (match ev cl e env st with
    | some (x, st1) => (sgD (.many js) x env).map fun env1 => .nx env1 st1
    | none => none) := id rfl
@[simp] theorem q_evS_app {i e} {env : List Sl} {st : Pl} : evS cl (.app i e : IS) env st = (match ev cl e env st with
    | some (x, st1) => (match env[i]? with
      | some (.ow ds) => if ds.length < most then some (.nx (env.set i (.ow (ds ++ [x]))) st1) else none
      | _ => none)
    | none => none) := id rfl
@[simp] theorem q_evS_ext {i e} {env : List Sl} {st : Pl} : evS cl (.ext i e : IS) env st = (match ev cl e env st with
    | some (x, st1) => (match itD x with
      | some xs => (match env[i]? with
        | some (.ow ds) => if ds.length + xs.length ≤ most then some (.nx (env.set i (.ow (ds ++ xs))) st1) else none
        | _ => none)
      | none => none)
    | none => none) := id rfl
@[simp] theorem q_evS_pput {i k e} {env : List Sl} {st : Pl} : evS cl (.pput i k e : IS) env st = (match ev cl e env st with
    | some (.int n, st1) => (match env[i]? with
      | some .pl => (st1.put n k).map fun st2 => .nx env st2
      | _ => none)
    | _ => none) := id rfl
@[simp] theorem q_evS_iff {c a b} {env : List Sl} {st : Pl} : evS cl (.iff c a b : IS) env st = (match ev cl c env st with
    | some (.bool true, st1) => evSs cl a env st1
    | some (.bool false, st1) => evSs cl b env st1
    | _ => none) := id rfl
@[simp] theorem q_evS_forr {j it b} {env : List Sl} {st : Pl} : evS cl (.forr j it b : IS) env st = (match ei cl it env st with
    | some (ds, st1) => forG (fb cl j b) ds env st1
    | none => none) := id rfl
@[simp] theorem q_evS_ret {e} {env : List Sl} {st : Pl} : evS cl (.ret e : IS) env st = (match ev cl e env st with
    | some (x, st1) => some (.rt x st1)
    | none => none) := id rfl
@[simp] theorem q_evS_retN  {env : List Sl} {st : Pl} : evS cl (.retN : IS) env st = some (.rt .none st) := id rfl
@[simp] theorem q_evS_retf {e} {env : List Sl} {st : Pl} : evS cl (.retf e : IS) env st = (match ev cl e env st with
    | some (.list xs, st1) => some (.rt (.list xs) st1)
    | _ => none) := id rfl
@[simp] theorem q_evS_dropc {f as i} {env : List Sl} {st : Pl} : evS cl (.dropc f as i : IS) env st = (match ag cl as env st with
    | some (ds, st1) => (match env[i]? with
      | some (.ow xs) => (match cl (ioN f) (ds ++ [some (.list xs)]) st1 with
        | some (.list out, st2) => some (.nx (env.set i (.ow out)) st2)
        | _ => none)
      | _ => none)
    | none => none) := id rfl
@[simp] theorem q_evS_setf {j f as} {env : List Sl} {st : Pl} : evS cl (.setf j f as : IS) env st = (match ag cl as env st with
    | some (ds, st1) => (match cl f ds st1 with
      | some (.none, st2) => some (.nx (env.set j (.im .none)) st2)
      | some (.list xs, st2) => some (.nx (env.set j (.ow xs)) st2)
      | _ => none)
    | none => none) := id rfl
@[simp] theorem q_evS_oset {i k e} {env : List Sl} {st : Pl} : evS cl (.oset i k e : IS) env st = (match ev cl e env st with
    | some (x, st1) => (match env[i]? with
      | some (.ow ds) => if k < ds.length then some (.nx (env.set i (.ow (ds.set k x))) st1) else none
      | _ => none)
    | none => none) := id rfl
@[simp] theorem q_evS_drop {e} {env : List Sl} {st : Pl} : evS cl (.drop e : IS) env st = (match ev cl e env st with
    | some (_, st1) => some (.nx env st1)
    | none => none) := id rfl
@[simp] theorem q_evS_brk  {env : List Sl} {st : Pl} : evS cl (.brk : IS) env st = some (.bk env st) := id rfl
@[simp] theorem q_evS_cnt  {env : List Sl} {st : Pl} : evS cl (.cnt : IS) env st = some (.ct env st) := id rfl
@[simp] theorem q_evS_frz {is s} {env : List Sl} {st : Pl} : evS cl (.frz is s : IS) env st = evS cl s (frzE env is) st := id rfl
@[simp] theorem q_evS_aug {i o e} {env : List Sl} {st : Pl} : evS cl (.aug i o e : IS) env st = (match env[i]? with
    | some (.im (.int m)) => (match ev cl e env st with
      | some (.int n, st1) => (match binD o (.int m) (.int n) with
        | some d => some (.nx (env.set i (.im d)) st1)
        | none => none)
      | _ => none)
    | _ => none) := id rfl
@[simp] theorem q_evS_stop  {env : List Sl} {st : Pl} : evS cl (.stop : IS) env st = none := id rfl
@[simp] theorem q_evS_rse {u1 u2} {env : List Sl} {st : Pl} : evS cl (.rse u1 u2 : IS) env st = none := id rfl
@[simp] theorem q_evS_calm {s} {env : List Sl} {st : Pl} : evS cl (.calm s : IS) env st = evS cl s env st := id rfl
@[simp] theorem q_evS_capp {i e} {env : List Sl} {st : Pl} : evS cl (.capp i e : IS) env st = (match ev cl e env st with
    | some (x, st1) => (match env[i]? with
      | some (.ce k) => (match st1.cs[k]? with
        | some ds => if flatD x = true ∧ ds.length < most then some (.nx env { st1 with cs := st1.cs.set k (ds ++ [x]) }) else none
        | none => none)
      | _ => none)
    | none => none) := id rfl
@[simp] theorem q_evS_cset {i j e} {env : List Sl} {st : Pl} : evS cl (.cset i j e : IS) env st = (match ev cl e env st with
    | some (x, st1) => (match env[i]? with
      | some (.ce k) => (match st1.cs[k]? with
        | some ds => if flatD x = true ∧ j < ds.length then some (.nx env { st1 with cs := st1.cs.set k (ds.set j x) }) else none
        | none => none)
      | _ => none)
    | none => none) := id rfl
@[simp] theorem q_evS_cal {j i m} {env : List Sl} {st : Pl} : evS cl (.cal j i m : IS) env st = (match env[i]? with
    | some (.ce k) => (match st.cs[k]? with
      | some ds => (match ds[m]? with
        | some (.dict [(.none, .int n)]) => some (.nx (env.set j (.ce n.toNat)) st)
        | _ => none)
      | none => none)
    | _ => none) := id rfl
@[simp] theorem q_evS_cnew {j e r} {env : List Sl} {st : Pl} : evS cl (.cnew j e r : IS) env st = (match ev cl e env st with
    | some (.list ds, st1) => if ds.all flatD = true then (match evSs cl r (env.set j (.ce st1.cs.length)) { st1 with cs := st1.cs ++ [ds] } with
      | some o => some (o.unc st1.cs.length)
      | none => none) else none
    | _ => none) := id rfl
@[simp] theorem q_evS_whl {c} {env : List Sl} {st : Pl} : evS cl (.whl c : IS) env st = (match ev cl c env st with
    | some (.bool false, st1) => some (.nx env st1)
    | _ => none) := id rfl
@[simp] theorem q_evS_ownl {is j e} {env : List Sl} {st : Pl} : evS cl (.ownl is j e : IS) env st = (match ev cl e (frzE env is) st with
    | some (.list xs, st1) => if xs.all flatD = true then some (.nx (env.set j (.ow xs)) st1) else none
    | _ => none) := id rfl
@[simp] theorem q_evS_tri {b cs j u} {env : List Sl} {st : Pl} : evS cl (.tri b cs j u : IS) env st = (match evSs cl b env st with
    | some o => some o
    | none => (match xvSs cl b env st with
      | some ((c, v), env1, st1) => if c ∈ cs then (match evSs cl u (env1.set j (.er c v)) st1 with
          | some o => some (o.un j)
          | none => none) else none
      | none => none)) := id rfl
@[simp] theorem q_evS_hid {j} {env : List Sl} {st : Pl} : evS cl (.hid j : IS) env st = some (.nx (env.set j .no) st) := id rfl
@[simp] theorem q_evSs_nil  {env : List Sl} {st : Pl} : evSs cl (.nil : ISs) env st = some (.nx env st) := id rfl
@[simp] theorem q_evSs_cons {s r} {env : List Sl} {st : Pl} : evSs cl (.cons s r : ISs) env st = (match evS cl s env st with
    | some (.nx env1 st1) => evSs cl r env1 st1
    | some o => some o
    | none => none) := id rfl
@[simp] theorem q_xvS_set {u1 e} {env : List Sl} {st : Pl} : xvS cl (.set u1 e : IS) env st = (xv cl e env st).map fun r => (r.1, env, r.2) := id rfl
@[simp] theorem q_xvS_ret {e} {env : List Sl} {st : Pl} : xvS cl (.ret e : IS) env st = (xv cl e env st).map fun r => (r.1, env, r.2) := id rfl
@[simp] theorem q_xvS_drop {e} {env : List Sl} {st : Pl} : xvS cl (.drop e : IS) env st = (xv cl e env st).map fun r => (r.1, env, r.2) := id rfl
@[simp] theorem q_xvS_app {i e} {env : List Sl} {st : Pl} : xvS cl (.app i e : IS) env st = (match env[i]? with
    | some (.ow _) => (xv cl e env st).map fun r => (r.1, env, r.2)
    | _ => none) := id rfl
@[simp] theorem q_xvS_rse {c e} {env : List Sl} {st : Pl} : xvS cl (.rse c e : IS) env st = (match ev cl e env st with
    | some (v, st1) => if errOk v = true then some ((c, v), env, st1) else none
    | none => none) := id rfl
@[simp] theorem q_xvS_iff {c a b} {env : List Sl} {st : Pl} : xvS cl (.iff c a b : IS) env st = (match ev cl c env st with
    | some (.bool true, st1) => xvSs cl a env st1
    | some (.bool false, st1) => xvSs cl b env st1
    | _ => none) := id rfl
@[simp] theorem q_xvS_tri {b cs u1 u2} {env : List Sl} {st : Pl} : xvS cl (.tri b cs u1 u2 : IS) env st = (match xvSs cl b env st with
    | some r => if r.1.1 ∈ cs then none else some r
    | none => none) := id rfl
@[simp] theorem q_xvSs_nil  {env : List Sl} {st : Pl} : xvSs cl (.nil : ISs) env st = none := id rfl
@[simp] theorem q_xvSs_cons {s r} {env : List Sl} {st : Pl} : xvSs cl (.cons s r : ISs) env st = (match xvS cl s env st with
    | some x => some x
    | none => (match evS cl s env st with
      | some (.nx env1 st1) => xvSs cl r env1 st1
      | _ => none)) := id rfl
@[simp] theorem eqv_int (i j : Int) : PyData.eqv (.int i) (.int j) = decide (i = j) := by simp [PyData.eqv]; rfl
@[simp] theorem eqv_str (s t : Str) : PyData.eqv (.str s) (.str t) = decide (s = t) := by simp [PyData.eqv]; rfl
end Ip

set_option Elab.async false
set_option linter.all false
set_option maxRecDepth 100000
set_option maxHeartbeats 4000000
namespace Cm
open PySem Ip
/-! Helpers that several texts share, in short. -/
def I_law_mixed : IF := ⟨6, (.cons (.set 3 (.bin .mod (.bi .int (.cons (.bin .add (.bin .add (.bin .mul (.var 0) (.cst (.int 48271))) (.bin .mul (.var 1) (.cst (.int 69621)))) (.cst (.int 11))) .nil)) (.cst (.int 2147483647))))
  (.cons (.set 4 (.bin .mod (.bi .int (.cons (.bin .add (.bin .add (.bin .mul (.var 3) (.cst (.int 40692))) (.bin .mul (.var 0) (.cst (.int 16807)))) (.bin .mul (.var 1) (.cst (.int 30269)))) .nil)) (.cst (.int 2147483399))))
  (.cons (.set 5 (.bin .mod (.bi .int (.cons (.bin .add (.bin .mul (.var 4) (.cst (.int 39373))) (.bin .fdv (.var 3) (.cst (.int 7)))) .nil)) (.cst (.int 1000000007))))
  (.cons (.ret (.bin .mod (.bi .int (.cons (.var 5) .nil)) (.var 2)))
  .nil))))⟩
def I_law_draw : IF := ⟨4, (.cons (.iff (.cmp .gt (.pix 0 2) (.cst (.int 0))) (.cons (.set 2 (.bin .mod (.bi .int (.cons (.pix 0 2) .nil)) (.var 1)))
  (.cons (.pput 0 2 (.bin .fdv (.pix 0 2) (.var 1)))
  (.cons (.ret (.var 2))
  .nil))) .nil)
  (.cons (.iff (.cmp .gt (.pix 0 4) (.cst (.int 0))) (.cons (.pput 0 4 (.bin .sub (.pix 0 4) (.cst (.int 1))))
  (.cons (.ret (.call "_law_mixed" (.cons (.pix 0 3) (.cons (.pix 0 4) (.cons (.var 1) .nil)))))
  .nil)) .nil)
  (.cons (.iff (.cmp .ge (.pix 0 1) (.plen 0)) (.cons (.ret (.cst (.int 0)))
  .nil) .nil)
  (.cons (.set 3 (.pcel 0))
  (.cons (.pput 0 1 (.bin .add (.pix 0 1) (.cst (.int 1))))
  (.cons (.iff (.cmp .lt (.var 3) (.cst (.int 0))) (.cons (.set 3 (.bin .sub (.neg (.cst (.int 1))) (.var 3)))
  .nil) .nil)
  (.cons (.iff (.cmp .ge (.var 3) (.bin .pow (.cst (.int 10)) (.cst (.int 18)))) (.cons (.pput 0 2 (.bin .fdv (.var 3) (.var 1)))
  (.cons (.ret (.bin .mod (.bi .int (.cons (.var 3) .nil)) (.var 1)))
  .nil)) .nil)
  (.cons (.pput 0 3 (.var 3))
  (.cons (.pput 0 4 (.cst (.int 7)))
  (.cons (.ret (.call "_law_mixed" (.cons (.var 3) (.cons (.cst (.int 7)) (.cons (.var 1) .nil)))))
  .nil))))))))))⟩
def I_law_kinds : IF := ⟨0, (.cons (.ret (.lst (.cons (.cst (.str "any")) (.cons (.cst (.str "num")) (.cons (.cst (.str "nat")) (.cons (.cst (.str "small")) (.cons (.cst (.str "digit")) (.cons (.cst (.str "bit")) (.cons (.cst (.str "word")) .nil)))))))))
  .nil)⟩
def I_law_word : IF := ⟨6, (.cons (.set 4 (.ix (.var 1) (.call "_law_draw" (.pool 0 (.cons (.bi .len (.cons (.var 1) .nil)) .nil)))))
  (.cons (.forr (.one 5) (.rng1 (.var 3)) (.cons (.set 4 (.bin .add (.var 4) (.ix (.var 2) (.call "_law_draw" (.pool 0 (.cons (.bi .len (.cons (.var 2) .nil)) .nil))))))
  .nil))
  (.cons (.ret (.var 4))
  .nil)))⟩
def I_law_fresh : IF := ⟨6, (.cons (.set 2 (.cst (.str "abcdefghijklmnopqrstuvwxyz")))
  (.cons (.set 3 (.call "_law_draw" (.pool 0 (.cons (.cst (.int 3)) .nil))))
  (.cons (.iff (.cmp .eq (.var 3) (.cst (.int 2))) (.cons (.set 3 (.call "_law_draw" (.pool 0 (.cons (.cst (.int 6)) .nil))))
  .nil) .nil)
  (.cons (.set 4 (.call "_law_word" (.pool 0 (.cons (.var 2) (.cons (.bin .add (.var 2) (.cst (.str "0123456789"))) (.cons (.var 3) .nil))))))
  (.cons (.forr (.one 5) (.rng1 (.cst (.int 60))) (.cons (.iff (.and (.cmp .notin (.var 4) (.var 1)) (.and (.cmp .notin (.var 4) (.call "_law_kinds" .nil)) (.cmp .notin (.var 4) (.lst (.cons (.cst (.str "lent")) (.cons (.cst (.str "main")) .nil)))))) (.cons (.ret (.var 4))
  .nil) .nil)
  (.cons (.set 4 (.bin .add (.sl (.var 4) .non (.some (.cst (.int 4)))) (.bi .str (.cons (.var 5) .nil))))
  .nil)))
  (.cons (.ret (.var 4))
  .nil))))))⟩
def I_law_literal : IF := ⟨3, (.cons (.set 1 (.call "_law_draw" (.pool 0 (.cons (.cst (.int 5)) .nil))))
  (.cons (.iff (.cmp .eq (.var 1) (.cst (.int 0))) (.cons (.ret (.call "_law_draw" (.pool 0 (.cons (.cst (.int 2)) .nil))))
  .nil) .nil)
  (.cons (.iff (.cmp .eq (.var 1) (.cst (.int 1))) (.cons (.ret (.bin .sub (.call "_law_draw" (.pool 0 (.cons (.cst (.int 199)) .nil))) (.cst (.int 99))))
  .nil) .nil)
  (.cons (.iff (.cmp .eq (.var 1) (.cst (.int 2))) (.cons (.ret (.ix (.lst (.cons (.neg (.cst (.int 10))) (.cons (.neg (.cst (.int 9))) (.cons (.neg (.cst (.int 1))) (.cons (.cst (.int 2)) (.cons (.cst (.int 9)) (.cons (.cst (.int 10)) .nil))))))) (.call "_law_draw" (.pool 0 (.cons (.cst (.int 6)) .nil)))))
  .nil) .nil)
  (.cons (.iff (.cmp .eq (.var 1) (.cst (.int 3))) (.cons (.ret (.call "_law_draw" (.pool 0 (.cons (.cst (.int 10)) .nil))))
  .nil) .nil)
  (.cons (.set 2 (.cst (.str "abcdefghijklmnopqrstuvwxyz")))
  (.cons (.ret (.call "_law_word" (.pool 0 (.cons (.var 2) (.cons (.var 2) (.cons (.call "_law_draw" (.pool 0 (.cons (.cst (.int 6)) .nil))) .nil))))))
  .nil)))))))⟩
def I_law_kind : IF := ⟨1, (.cons (.iff (.cmp .eq (.call "_law_draw" (.pool 0 (.cons (.cst (.int 2)) .nil))) (.cst (.int 0))) (.cons (.ret (.cst .non))
  .nil) .nil)
  (.cons (.ret (.ix (.call "_law_kinds" .nil) (.call "_law_draw" (.pool 0 (.cons (.cst (.int 7)) .nil)))))
  .nil))⟩
def I_law_is_int : IF := ⟨1, (.cons (.ret (.and (.isi .int (.var 0)) (.not (.isi .bool (.var 0)))))
  .nil)⟩
def I_law_same : IF := ⟨3, (.cons (.iff (.cmp .isN (.var 1) (.cst .non)) (.cons (.ret (.cmp .isN (.var 0) (.cst .non)))
  .nil) .nil)
  (.cons (.iff (.isi .bool (.var 1)) (.cons (.ret (.and (.isi .bool (.var 0)) (.cmp .eq (.var 0) (.var 1))))
  .nil) .nil)
  (.cons (.iff (.isi .int (.var 1)) (.cons (.ret (.and (.call "_law_is_int" (.cons (.var 0) .nil)) (.cmp .eq (.var 0) (.var 1))))
  .nil) .nil)
  (.cons (.iff (.isi .str (.var 1)) (.cons (.ret (.and (.isi .str (.var 0)) (.cmp .eq (.var 0) (.var 1))))
  .nil) .nil)
  (.cons (.iff (.and (.isi .list (.var 1)) (.not (.isi .list (.var 0)))) (.cons (.ret (.cst (.bl false)))
  .nil) .nil)
  (.cons (.iff (.and (.isi .tuple (.var 1)) (.not (.isi .tuple (.var 0)))) (.cons (.ret (.cst (.bl false)))
  .nil) .nil)
  (.cons (.iff (.cmp .ne (.bi .len (.cons (.var 0) .nil)) (.bi .len (.cons (.var 1) .nil))) (.cons (.ret (.cst (.bl false)))
  .nil) .nil)
  (.cons (.forr (.one 2) (.rng1 (.bi .len (.cons (.var 1) .nil))) (.cons (.iff (.not (.call "_law_same" (.cons (.ix (.var 0) (.var 2)) (.cons (.ix (.var 1) (.var 2)) .nil)))) (.cons (.ret (.cst (.bl false)))
  .nil) .nil)
  .nil))
  (.cons (.ret (.cst (.bl true)))
  .nil)))))))))⟩
end Cm

set_option Elab.async false
set_option linter.all false
set_option maxRecDepth 100000
set_option maxHeartbeats 4000000
namespace Cm
open PySem Ip L2
/-! What the helpers come to. -/
structure Pok (C : List (List D)) (s : Pl) : Prop where
  i0 : 0 ≤ s.i
  c0 : 0 ≤ s.c
  c1 : s.c < 10 ^ 18
  l1 : s.l ≤ 7
  e : s.cs = C
def MixedOk (cl : Cl) : Prop := ∀ (c t lim : Int) (st : Pl), 0 ≤ c → c < 10 ^ 18 → 0 ≤ t → t ≤ 7 → 0 < lim → ∃ r, cl "_law_mixed" [some (.int c), some (.int t), some (.int lim)] st = some (.int r, st) ∧ 0 ≤ r ∧ r < lim
def DrawOk (cl : Cl) : Prop := ∀ {C : List (List D)} (lim : Int) (st : Pl), Pok C st → 0 < lim → lim < 1073741824 → ∃ r st', cl "_law_draw" [none, some (.int lim)] st = some (.int r, st') ∧ 0 ≤ r ∧ r < lim ∧ Pok C st'
theorem mixed_run (cl : Cl) (c t lim : Int) (st : Pl) (h0 : 0 ≤ c) (h1 : c < 10 ^ 18) (h2 : 0 ≤ t) (h3 : t ≤ 7) (h4 : 0 < lim) : ∃ r, runI 3 cl I_law_mixed [some (.int c), some (.int t), some (.int lim)] st = some (.int r, st) ∧ 0 ≤ r ∧ r < lim := by
  have g1 : c.natAbs < 2 ^ 64 := by omega
  have g2 : t.natAbs < 2 ^ 64 := by omega
  simp [runI, runF, I_law_mixed, evSs, evS, ev, ea, slOf, binD, biD, Cst.d, g1, g2, h4]
  exact ⟨Int.emod_nonneg _ (by omega), Int.emod_lt_of_pos _ h4⟩
theorem draw_run {cl : Cl} (hm : MixedOk cl) (lim : Int) (st : Pl) {C : List (List D)} (h : Pok C st) (h0 : 0 < lim) (h1 : lim < 1073741824) : ∃ r st', runI 2 cl I_law_draw [none, some (.int lim)] st = some (.int r, st') ∧ 0 ≤ r ∧ r < lim ∧ Pok C st' := by
  obtain ⟨ns, i, r, c, l, cs⟩ := st
  obtain ⟨i0, c0, c1, l1, hcs⟩ := h
  simp only at i0 c0 c1 l1
  by_cases hr : 0 < r
  · refine ⟨r % lim, ⟨ns, i, r / lim, c, l, cs⟩, ?_, Int.emod_nonneg _ (by omega), Int.emod_lt_of_pos _ h0, i0, c0, c1, l1, hcs⟩
    simp [runI, runF, I_law_draw, evSs, evS, ev, ea, ag, slOf, binD, biD, cmpD, Cst.d, Pl.at_, Pl.put, hr, h0, h1]
  · by_cases hl : 0 < l
    · obtain ⟨q, e, q0, q1⟩ := hm c (l - 1) lim ⟨ns, i, r, c, l - 1, cs⟩ c0 c1 (by omega) (by omega) h0
      refine ⟨q, ⟨ns, i, r, c, l - 1, cs⟩, ?_, q0, q1, i0, c0, c1, by show l - 1 ≤ 7; omega, hcs⟩
      simp [runI, runF, I_law_draw, evSs, evS, ev, ea, ag, slOf, binD, biD, cmpD, Cst.d, Pl.at_, Pl.put, hr, hl, h0, h1, e]
    · by_cases hi : (ns.length : Int) ≤ i
      · refine ⟨0, ⟨ns, i, r, c, l, cs⟩, ?_, Int.le_refl 0, h0, i0, c0, c1, l1, hcs⟩
        simp [runI, runF, I_law_draw, evSs, evS, ev, ea, ag, slOf, binD, biD, cmpD, Cst.d, Pl.at_, Pl.put, hr, hl, h0, h1, hi]
      · have hlt : i.toNat < ns.length := by omega
        have ha : atI ns i = some ns[i.toNat] := by
          unfold atI ixN
          rw [if_pos i0, if_pos (by omega)]
          show ns[i.toNat]? = _
          exact List.getElem?_eq_getElem hlt
        generalize hx : ns[i.toNat] = x at ha
        have key : ∀ y : Int, 0 ≤ y → (if x < 0 then -1 - x else x) = y → ∃ r' st', runI 2 cl I_law_draw [none, some (.int lim)] ⟨ns, i, r, c, l, cs⟩ = some (.int r', st') ∧ 0 ≤ r' ∧ r' < lim ∧ Pok C st' := fun y y0 ey => by
          by_cases hy : (10 : Int) ^ 18 ≤ y
          · by_cases hn : x < 0
            · rw [if_pos hn] at ey
              have hy2 : (1000000000000000000 : Int) ≤ -1 - x := by omega
              refine ⟨(-1 - x) % lim, ⟨ns, i + 1, (-1 - x) / lim, c, l, cs⟩, ?_, Int.emod_nonneg _ (by omega), Int.emod_lt_of_pos _ h0, by show 0 ≤ i + 1; omega, c0, c1, l1, hcs⟩
              simp [runI, runF, I_law_draw, evSs, evS, ev, ea, ag, slOf, binD, biD, cmpD, Cst.d, Pl.at_, Pl.put, hr, hl, h0, h1, hi, ha, hn, hy2]
            · rw [if_neg hn] at ey
              have hy2 : (1000000000000000000 : Int) ≤ x := by omega
              refine ⟨x % lim, ⟨ns, i + 1, x / lim, c, l, cs⟩, ?_, Int.emod_nonneg _ (by omega), Int.emod_lt_of_pos _ h0, by show 0 ≤ i + 1; omega, c0, c1, l1, hcs⟩
              simp [runI, runF, I_law_draw, evSs, evS, ev, ea, ag, slOf, binD, biD, cmpD, Cst.d, Pl.at_, Pl.put, hr, hl, h0, h1, hi, ha, hn, hy2]
          · obtain ⟨q, e, q0, q1⟩ := hm y 7 lim ⟨ns, i + 1, r, y, 7, cs⟩ y0 (by omega) (by omega) (by omega) h0
            by_cases hn : x < 0
            · rw [if_pos hn] at ey
              subst ey
              have hy2 : ¬ (1000000000000000000 : Int) ≤ -1 - x := by omega
              refine ⟨q, ⟨ns, i + 1, r, -1 - x, 7, cs⟩, by simp [runI, runF, I_law_draw, evSs, evS, ev, ea, ag, slOf, binD, biD, cmpD, Cst.d, Pl.at_, Pl.put, hr, hl, h0, h1, hi, ha, hn, hy2, e], q0, q1, by show 0 ≤ i + 1; omega, y0, by show -1 - x < 10 ^ 18; omega, by show (7 : Int) ≤ 7; omega, hcs⟩
            · rw [if_neg hn] at ey
              subst ey
              have hy2 : ¬ (1000000000000000000 : Int) ≤ x := by omega
              refine ⟨q, ⟨ns, i + 1, r, x, 7, cs⟩, by simp [runI, runF, I_law_draw, evSs, evS, ev, ea, ag, slOf, binD, biD, cmpD, Cst.d, Pl.at_, Pl.put, hr, hl, h0, h1, hi, ha, hn, hy2, e], q0, q1, by show 0 ≤ i + 1; omega, y0, by show x < 10 ^ 18; omega, by show (7 : Int) ≤ 7; omega, hcs⟩
        by_cases hn : x < 0
        · exact key (-1 - x) (by omega) (if_pos hn)
        · exact key x (by omega) (if_neg hn)
end Cm

set_option Elab.async false
set_option linter.all false
set_option maxRecDepth 100000
set_option maxHeartbeats 4000000
namespace Cm
open PySem Ip L2
/-! ### texts -/
theorem char_inj : ∀ {a b : List Char}, a.map Char.toNat = b.map Char.toNat → a = b
  | [], [], _ => rfl
  | x :: a, y :: b, h => by
    simp only [List.map_cons, List.cons.injEq] at h
    have e : x = y := Char.ext (by
      have h1 : x.val.toNat = y.val.toNat := h.1
      exact UInt32.toNat_inj.mp h1)
    rw [e, char_inj h.2]
  | [], _ :: _, h => by simp at h
  | _ :: _, [], h => by simp at h
@[simp] theorem ofString_inj (a b : String) : (Str.ofString a = Str.ofString b) ↔ a = b := by
  constructor
  · intro h
    rw [Str.ofString_eq_toList, Str.ofString_eq_toList] at h
    have h2 : a.toList.map Char.toNat = b.toList.map Char.toNat := by simpa using congrArg (fun s => s.cps.toList) h
    have h3 := char_inj h2
    rw [← String.ofList_toList (s := a), ← String.ofList_toList (s := b), h3]
  · rintro rfl
    rfl
theorem ofString_len (a : String) : (Str.ofString a).length = a.toList.length := by
  rw [Str.ofString_eq_toList]
  show (List.map Char.toNat a.toList).toArray.size = _
  simp
theorem str_len_add (a b : Str) : (a ++ b).length = a.length + b.length := by
  show (a.cps ++ b.cps).size = _
  rw [Array.size_append]
  rfl
example : (Str.ofString "abc").length = 3 := by rw [ofString_len]; decide
/-! ### loops -/
theorem forG_or {f : D → List Sl → Pl → Option Out} (I : Nat → List Sl → Pl → Prop) (R : D → Pl → Prop) : ∀ (ds : List D) (n : Nat) (env : List Sl) (st : Pl), I n env st →
    (∀ i d env st, ds[i]? = some d → I (n + i) env st → (∃ env' st', (f d env st = some (.nx env' st') ∨ f d env st = some (.ct env' st')) ∧ I (n + i + 1) env' st') ∨ (∃ v st', f d env st = some (.rt v st') ∧ R v st')) →
    (∃ env' st', forG f ds env st = some (.nx env' st') ∧ I (n + ds.length) env' st') ∨ (∃ v st', forG f ds env st = some (.rt v st') ∧ R v st')
  | [], n, env, st, h, _ => .inl ⟨env, st, rfl, h⟩
  | d :: ds, n, env, st, h, hs => by
    rcases hs 0 d env st rfl h with ⟨env1, st1, e, h1⟩ | ⟨v, st1, e, h1⟩
    · have ih := forG_or I R ds (n + 1) env1 st1 h1 fun i d' env' st' hi h' => by
        have h2 := hs (i + 1) d' env' st' (by simpa using hi) (by
          have e2 : n + (i + 1) = n + 1 + i := by omega
          rw [e2]
          exact h')
        have e2 : n + (i + 1) + 1 = n + 1 + i + 1 := by omega
        rw [e2] at h2
        exact h2
      have e2 : n + (d :: ds).length = n + 1 + ds.length := by simp; omega
      rw [e2]
      rcases e with e | e
      · unfold forG
        rw [e]
        exact ih
      · unfold forG
        rw [e]
        exact ih
    · refine .inr ⟨v, st1, ?_, h1⟩
      unfold forG
      rw [e]
theorem forG_nx {f : D → List Sl → Pl → Option Out} (I : Nat → List Sl → Pl → Prop) (ds : List D) (env : List Sl) (st : Pl) (h : I 0 env st)
    (hs : ∀ i d env st, ds[i]? = some d → I i env st → ∃ env' st', f d env st = some (.nx env' st') ∧ I (i + 1) env' st') : ∃ env' st', forG f ds env st = some (.nx env' st') ∧ I ds.length env' st' := by
  have h1 := forG_or (f := f) I (fun _ _ => False) ds 0 env st h fun i d env st hi h' => by
    rw [Nat.zero_add] at h' ⊢
    obtain ⟨env', st', e, h2⟩ := hs i d env st hi h'
    exact .inl ⟨env', st', .inl e, h2⟩
  rcases h1 with ⟨env', st', e, h2⟩ | ⟨_, _, _, h2⟩
  · rw [Nat.zero_add] at h2
    exact ⟨env', st', e, h2⟩
  · exact h2.elim
theorem lcG_pure {f : D → Pl → Option (Option D × Pl)} {g : D → Option D} {st : Pl} : ∀ {ds : List D}, (∀ d ∈ ds, f d st = some (g d, st)) → lcG f ds st = some (ds.filterMap g, st)
  | [], _ => rfl
  | d :: ds, h => by
    unfold lcG
    rw [h d List.mem_cons_self]
    have ih := lcG_pure (f := f) (g := g) (st := st) fun x hx => h x (List.mem_cons_of_mem _ hx)
    rw [List.filterMap_cons]
    cases g d with
    | none => exact ih
    | some y =>
      simp only [ih]
theorem lcG_all {f : D → Pl → Option (Option D × Pl)} (J : Pl → Prop) (P : D → Prop) : ∀ (ds : List D) (st : Pl), J st → (∀ d ∈ ds, ∀ st, J st → ∃ y st', f d st = some (some y, st') ∧ J st' ∧ P y) →
    ∃ ys st', lcG f ds st = some (ys, st') ∧ J st' ∧ (∀ y ∈ ys, P y) ∧ ys.length = ds.length
  | [], st, h, _ => ⟨[], st, rfl, h, (fun y hy => by cases hy), rfl⟩
  | d :: ds, st, h, hs => by
    obtain ⟨y, st1, e, h1, hp⟩ := hs d List.mem_cons_self st h
    obtain ⟨ys, st2, e2, h2, hp2, hl⟩ := lcG_all J P ds st1 h1 fun x hx => hs x (List.mem_cons_of_mem _ hx)
    refine ⟨y :: ys, st2, ?_, h2, fun z hz => ?_, congrArg Nat.succ hl⟩
    · unfold lcG
      rw [e]
      simp only [e2]
    · rcases List.mem_cons.mp hz with rfl | hz
      · exact hp
      · exact hp2 z hz
theorem rngD_nat {n : Int} (h0 : 0 ≤ n) (h1 : n ≤ 100000) : rngD 0 n = some ((List.range n.toNat).map fun (k : Nat) => PyData.int (k : Int)) := by
  unfold rngD
  rw [if_pos (by omega), Int.sub_zero]
  simp
/-! ### kinds, words, names -/
def kindsD : List D := [.str "any", .str "num", .str "nat", .str "small", .str "digit", .str "bit", .str "word"]
def KindsOk (cl : Cl) : Prop := ∀ st, cl "_law_kinds" [] st = some (.list kindsD, st)
theorem kinds_run (cl : Cl) (st : Pl) : runI 0 cl I_law_kinds [] st = some (.list kindsD, st) := by
  simp [runI, runF, I_law_kinds, evSs, evS, ev, ea, most, Cst.d, kindsD]
/-- a text whose first sign is one of a's, the others of b's -/
def WordOf (a b : Str) (n : Nat) (w : Str) : Prop := ∃ c l, w = ⟨(c :: l).toArray⟩ ∧ c ∈ a.cps.toList ∧ (∀ x ∈ l, x ∈ b.cps.toList) ∧ l.length = n
def WordOk (cl : Cl) : Prop := ∀ {C : List (List D)} (a b : Str) (m : Int) (st : Pl), Pok C st → 1 ≤ a.length → a.length ≤ 1000 → 1 ≤ b.length → b.length ≤ 1000 → 0 ≤ m → m ≤ 100 → ∃ w st', cl "_law_word" [none, some (.str a), some (.str b), some (.int m)] st = some (.str w, st') ∧ WordOf a b m.toNat w ∧ Pok C st'
theorem atI_of {α : Type} {xs : List α} {r : Int} (h0 : 0 ≤ r) (h1 : r < xs.length) : atI xs r = some (xs[r.toNat]'(by omega)) := by
  unfold atI ixN
  rw [if_pos h0, if_pos h1]
  exact List.getElem?_eq_getElem _
theorem WordOf.len {a b : Str} {n : Nat} {w : Str} (h : WordOf a b n w) : w.length = n + 1 := by
  obtain ⟨c, l, rfl, _, _, rfl⟩ := h
  rfl
theorem word_run {cl : Cl} (hd : DrawOk cl) (a b : Str) (m : Int) (st : Pl) {C : List (List D)} (h : Pok C st) (a1 : 1 ≤ a.length) (a2 : a.length ≤ 1000) (b1 : 1 ≤ b.length) (b2 : b.length ≤ 1000) (m0 : 0 ≤ m) (m1 : m ≤ 100) :
    ∃ w st', runI 4 cl I_law_word [none, some (.str a), some (.str b), some (.int m)] st = some (.str w, st') ∧ WordOf a b m.toNat w ∧ Pok C st' := by
  have ha : a.length ≤ most := Nat.le_trans a2 (by decide)
  have hb : b.length ≤ most := Nat.le_trans b2 (by decide)
  have la : a.cps.toList.length = a.length := Array.length_toList
  have lb : b.cps.toList.length = b.length := Array.length_toList
  obtain ⟨r, st1, e1, r0, r1, h1⟩ := hd a.length st h (by omega) (by omega)
  have hat := atI_of (xs := a.cps.toList) r0 (by rw [la]; exact r1)
  generalize hc : a.cps.toList[r.toNat]'_ = c at hat
  have hca : c ∈ a.cps.toList := by rw [← hc]; exact List.getElem_mem _
  have hrg := rngD_nat m0 (by omega)
  obtain ⟨env', st2, e2, w, x, rfl, e4, e5⟩ := forG_nx (f := fb cl (.one 5) (.cons (.set 4 (.bin .add (.var 4) (.ix (.var 2) (.call "_law_draw" (.pool 0 (.cons (.bi .len (.cons (.var 2) .nil)) .nil)))))) .nil)) (fun i env st => ∃ w x, env = [.pl, .im (.str a), .im (.str b), .im (.int m), .im (.str w), x] ∧ WordOf a b i w ∧ Pok C st)
    ((List.range m.toNat).map fun (k : Nat) => PyData.int (k : Int)) [.pl, .im (.str a), .im (.str b), .im (.int m), .im (.str ⟨#[c]⟩), .no] st1 ⟨⟨#[c]⟩, .no, rfl, ⟨c, [], rfl, hca, fun x hx => by (cases hx), rfl⟩, h1⟩
    (fun i d env st hi ⟨w, x, e, hw, hp⟩ => by
      subst e
      have hi2 : i < m.toNat := by
        have := (List.getElem?_eq_some_iff.mp hi).1
        simpa using this
      obtain ⟨r, st1, e1, r0, r1, h1⟩ := hd b.length st hp (by omega) (by omega)
      have hat := atI_of (xs := b.cps.toList) r0 (by rw [lb]; exact r1)
      generalize hc : b.cps.toList[r.toNat]'_ = c at hat
      have hcb : c ∈ b.cps.toList := by rw [← hc]; exact List.getElem_mem _
      have hwl := hw.len
      have hl1 : (⟨#[c]⟩ : Str).length = 1 := rfl
      have hsum : w.length + (⟨#[c]⟩ : Str).length ≤ most := by
        rw [hl1, hwl]
        show i + 1 + 1 ≤ 100000
        omega
      refine ⟨[.pl, .im (.str a), .im (.str b), .im (.int m), .im (.str (w ++ ⟨#[c]⟩)), .im d], st1, ?_, w ++ ⟨#[c]⟩, .im d, rfl, ?_, h1⟩
      · simp [fb_eq, sgD, binD, biD, ixD, hb, e1, hat, hsum]
      · obtain ⟨c0, l, rfl, h2, h3, h4⟩ := hw
        refine ⟨c0, l ++ [c], ?_, h2, fun y hy => ?_, by simp [h4]⟩
        · show (⟨(c0 :: l).toArray ++ #[c]⟩ : Str) = _
          simp
        · rcases List.mem_append.mp hy with hy | hy
          · exact h3 y hy
          · rw [List.mem_singleton.mp hy]
            exact hcb)
  refine ⟨w, st2, ?_, by simpa using e4, e5⟩
  simp [runI, runF, I_law_word, slOf, binD, biD, ixD, ha, e1, hat, hrg, e2]
end Cm

set_option Elab.async false
set_option linter.all false
set_option maxRecDepth 100000
set_option maxHeartbeats 4000000
namespace Cm
open PySem Ip L2
theorem forG_or0 {f : D → List Sl → Pl → Option Out} (I : Nat → List Sl → Pl → Prop) (R : D → Pl → Prop) (ds : List D) (env : List Sl) (st : Pl) (h : I 0 env st)
    (hs : ∀ i d env st, ds[i]? = some d → I i env st → (∃ env' st', (f d env st = some (.nx env' st') ∨ f d env st = some (.ct env' st')) ∧ I (i + 1) env' st') ∨ (∃ v st', f d env st = some (.rt v st') ∧ R v st')) :
    (∃ env' st', forG f ds env st = some (.nx env' st') ∧ I ds.length env' st') ∨ (∃ v st', forG f ds env st = some (.rt v st') ∧ R v st') := by
  have h1 := forG_or (f := f) I R ds 0 env st h fun i d env st hi h' => by
    rw [Nat.zero_add] at h' ⊢
    exact hs i d env st hi h'
  rw [Nat.zero_add] at h1
  exact h1
def flats (xs : List D) : Prop := xs.all flatD = true
theorem rng_at {n i : Nat} {d : D} (h : ((List.range n).map fun (k : Nat) => PyData.int (k : Int))[i]? = some d) : i < n ∧ d = .int i := by
  obtain ⟨h1, h2⟩ := List.getElem?_eq_some_iff.mp h
  simp at h1
  simp at h2
  exact ⟨h1, h2.symm⟩
theorem repr_len : ∀ k ∈ List.range 60, (toString (k : Int)).toList.length ≤ 2 := by decide
theorem str_small {i : Nat} (h : i < 60) : ∃ s, biD .str [.int (i : Int)] = some (.str s) ∧ s.length ≤ 2 := by
  refine ⟨Str.ofString (toString (i : Int)), ?_, ?_⟩
  · have h0 : (i : Int).natAbs.log2 < 1920 := by
      have h0 : (i : Int).natAbs = i := by omega
      rw [h0]
      exact Nat.lt_of_le_of_lt (Nat.log2_le_self i) (by omega)
    show (if _ then _ else _) = _
    rw [if_pos h0]
  · rw [ofString_len]
    exact repr_len i (List.mem_range.mpr h)
theorem cut_len (w : Str) : (cutS w none (some 4)).length ≤ 4 := by
  show (List.toArray _).size ≤ 4
  simp [HT.sIx]
  omega
def FreshOk (cl : Cl) : Prop := ∀ {C : List (List D)} (xs : List D) (st : Pl), Pok C st → flats xs → ∃ w st', cl "_law_fresh" [none, some (.list xs)] st = some (.str w, st') ∧ w.length ≤ 6 ∧ Pok C st'
theorem kinds_flat : kindsD.all flatD = true := by rfl
theorem l26 : (Str.ofString "abcdefghijklmnopqrstuvwxyz").length = 26 := by rw [ofString_len]; decide
theorem l10 : (Str.ofString "0123456789").length = 10 := by rw [ofString_len]; decide
theorem fresh_run {cl : Cl} (hd : DrawOk cl) (hw : WordOk cl) (hk : KindsOk cl) (xs : List D) (st : Pl) {C : List (List D)} (h : Pok C st) (hx : flats xs) :
    ∃ w st', runI 2 cl I_law_fresh [none, some (.list xs)] st = some (.str w, st') ∧ w.length ≤ 6 ∧ Pok C st' := by
  have hm36 : (26 : Nat) + 10 ≤ most := by decide
  have hrg : rngD 0 60 = some ((List.range 60).map fun (k : Nat) => PyData.int (k : Int)) := rngD_nat (n := 60) (by decide) (by decide)
  have h2m : (2 : Nat) ≤ most := by decide
  have tail : ∀ (m : Int) (st2 : Pl), Pok C st2 → 0 ≤ m → m ≤ 5 → ∃ w st3, cl "_law_word" [none, some (.str "abcdefghijklmnopqrstuvwxyz"), some (.str (Str.ofString "abcdefghijklmnopqrstuvwxyz" ++ Str.ofString "0123456789")), some (.int m)] st2 = some (.str w, st3) ∧
      ((∃ w2 x, forG (fb cl (.one 5) (.cons (.iff (.and (.cmp .notin (.var 4) (.var 1)) (.and (.cmp .notin (.var 4) (.call "_law_kinds" .nil)) (.cmp .notin (.var 4) (.lst (.cons (.cst (.str "lent")) (.cons (.cst (.str "main")) .nil)))))) (.cons (.ret (.var 4)) .nil) .nil)
        (.cons (.set 4 (.bin .add (.sl (.var 4) .non (.some (.cst (.int 4)))) (.bi .str (.cons (.var 5) .nil)))) .nil)))
        ((List.range 60).map fun (k : Nat) => PyData.int (k : Int)) [.pl, .im (.list xs), .im (.str "abcdefghijklmnopqrstuvwxyz"), .im (.int m), .im (.str w), .no] st3 = some (.nx [.pl, .im (.list xs), .im (.str "abcdefghijklmnopqrstuvwxyz"), .im (.int m), .im (.str w2), x] st3) ∧ w2.length ≤ 6) ∨
      (∃ w2, forG (fb cl (.one 5) (.cons (.iff (.and (.cmp .notin (.var 4) (.var 1)) (.and (.cmp .notin (.var 4) (.call "_law_kinds" .nil)) (.cmp .notin (.var 4) (.lst (.cons (.cst (.str "lent")) (.cons (.cst (.str "main")) .nil)))))) (.cons (.ret (.var 4)) .nil) .nil)
        (.cons (.set 4 (.bin .add (.sl (.var 4) .non (.some (.cst (.int 4)))) (.bi .str (.cons (.var 5) .nil)))) .nil)))
        ((List.range 60).map fun (k : Nat) => PyData.int (k : Int)) [.pl, .im (.list xs), .im (.str "abcdefghijklmnopqrstuvwxyz"), .im (.int m), .im (.str w), .no] st3 = some (.rt (.str w2) st3) ∧ w2.length ≤ 6)) ∧ Pok C st3 := fun m st2 h2 m0 m1 => by
    obtain ⟨w, st3, e3, w1, h3⟩ := hw "abcdefghijklmnopqrstuvwxyz" (Str.ofString "abcdefghijklmnopqrstuvwxyz" ++ Str.ofString "0123456789") m st2 h2 (by rw [l26]; decide) (by rw [l26]; decide) (by rw [str_len_add, l26]; omega) (by rw [str_len_add, l26, l10]; decide) m0 (by omega)
    refine ⟨w, st3, e3, ?_, h3⟩
    rcases forG_or0 (f := fb cl (.one 5) (.cons (.iff (.and (.cmp .notin (.var 4) (.var 1)) (.and (.cmp .notin (.var 4) (.call "_law_kinds" .nil)) (.cmp .notin (.var 4) (.lst (.cons (.cst (.str "lent")) (.cons (.cst (.str "main")) .nil)))))) (.cons (.ret (.var 4)) .nil) .nil)
        (.cons (.set 4 (.bin .add (.sl (.var 4) .non (.some (.cst (.int 4)))) (.bi .str (.cons (.var 5) .nil)))) .nil)))
      (fun _ env st => ∃ w x, env = [.pl, .im (.list xs), .im (.str "abcdefghijklmnopqrstuvwxyz"), .im (.int m), .im (.str w), x] ∧ w.length ≤ 6 ∧ st = st3)
      (fun v st => ∃ w, v = .str w ∧ w.length ≤ 6 ∧ st = st3)
      ((List.range 60).map fun (k : Nat) => PyData.int (k : Int))
      [.pl, .im (.list xs), .im (.str "abcdefghijklmnopqrstuvwxyz"), .im (.int m), .im (.str w), .no] st3 ⟨w, .no, rfl, by rw [w1.len]; omega, rfl⟩
      (fun i d env st hi ⟨w, x, e, hw, hst⟩ => by
        subst e
        subst hst
        obtain ⟨hi2, rfl⟩ := rng_at hi
        have hwm : w.length ≤ most := Nat.le_trans hw (by decide)
        obtain ⟨s, hs, hsl⟩ := str_small hi2
        have hc4 := cut_len w
        have hll : (cutS w none (some 4)).length + s.length ≤ most := by
          show _ ≤ 100000
          omega
        have hll2 : (cutS w none (some 4) ++ s).length ≤ 6 := by
          rw [str_len_add]
          omega
        have e4 : (∀ b, b = (memD (.str w) xs = true ∨ memD (.str w) kindsD = true ∨ w = Str.ofString "lent" ∨ w = Str.ofString "main") → True) := fun _ _ => trivial
        by_cases h1 : memD (.str w) xs = true
        · refine .inl ⟨[.pl, .im (.list xs), .im (.str "abcdefghijklmnopqrstuvwxyz"), .im (.int m), .im (.str (cutS w none (some 4) ++ s)), .im (.int i)], st, .inl ?_, _, _, rfl, hll2, rfl⟩
          simp [fb_eq, sgD, binD, slD, cmpD, inD, flatD, Cst.d, hwm, hs, hll, h1, show xs.all flatD = true from hx]
        · by_cases h2 : memD (.str w) kindsD = true
          · refine .inl ⟨[.pl, .im (.list xs), .im (.str "abcdefghijklmnopqrstuvwxyz"), .im (.int m), .im (.str (cutS w none (some 4) ++ s)), .im (.int i)], st, .inl ?_, _, _, rfl, hll2, rfl⟩
            simp [fb_eq, sgD, binD, slD, cmpD, inD, flatD, Cst.d, hwm, hs, hll, h1, h2, hk st, kinds_flat, show xs.all flatD = true from hx]
          · by_cases h3 : (Str.ofString "lent" = w ∨ Str.ofString "main" = w)
            · refine .inl ⟨[.pl, .im (.list xs), .im (.str "abcdefghijklmnopqrstuvwxyz"), .im (.int m), .im (.str (cutS w none (some 4) ++ s)), .im (.int i)], st, .inl ?_, _, _, rfl, hll2, rfl⟩
              simp [fb_eq, sgD, binD, slD, cmpD, inD, flatD, Cst.d, hwm, hs, hll, h1, h2, hk st, kinds_flat, h2m, show xs.all flatD = true from hx, show memD (.str w) [.str (Str.ofString "lent"), .str (Str.ofString "main")] = true by simp [memD, h3]]
            · refine .inr ⟨.str w, st, ?_, w, rfl, hw, rfl⟩
              simp [fb_eq, sgD, binD, slD, cmpD, inD, flatD, Cst.d, hwm, hs, hll, h1, h2, hk st, kinds_flat, h2m, show xs.all flatD = true from hx, show memD (.str w) [.str (Str.ofString "lent"), .str (Str.ofString "main")] = false by simp [memD]; exact ⟨fun e => h3 (.inl e), fun e => h3 (.inr e)⟩]) with ⟨env', st4, e4, w2, x, rfl, h4, rfl⟩ | ⟨v, st4, e4, w2, rfl, h4, rfl⟩
    · exact .inl ⟨w2, x, e4, h4⟩
    · exact .inr ⟨w2, e4, h4⟩
  obtain ⟨r, st1, e1, r0, r1, h1⟩ := hd 3 st h (by decide) (by decide)
  by_cases h2 : r = 2
  · subst h2
    obtain ⟨r', st2, e2, r0', r1', h2'⟩ := hd 6 st1 h1 (by decide) (by decide)
    obtain ⟨w, st3, e3, ⟨w2, x, e4, h4⟩ | ⟨w2, e4, h4⟩, h3⟩ := tail r' st2 h2' r0' (by omega)
    · refine ⟨w2, st3, ?_, h4, h3⟩
      simp [runI, runF, I_law_fresh, slOf, binD, cmpD, eqD, Cst.d, l26, l10, hm36, e1, e2, e3, hrg, e4]
    · refine ⟨w2, st3, ?_, h4, h3⟩
      simp [runI, runF, I_law_fresh, slOf, binD, cmpD, eqD, Cst.d, l26, l10, hm36, e1, e2, e3, hrg, e4]
  · obtain ⟨w, st3, e3, ⟨w2, x, e4, h4⟩ | ⟨w2, e4, h4⟩, h3⟩ := tail r st1 h1 r0 (by omega)
    · refine ⟨w2, st3, ?_, h4, h3⟩
      simp [runI, runF, I_law_fresh, slOf, binD, cmpD, eqD, Cst.d, l26, l10, hm36, e1, e3, hrg, e4, h2]
    · refine ⟨w2, st3, ?_, h4, h3⟩
      simp [runI, runF, I_law_fresh, slOf, binD, cmpD, eqD, Cst.d, l26, l10, hm36, e1, e3, hrg, e4, h2]
end Cm

set_option Elab.async false
set_option linter.all false
set_option maxRecDepth 100000
set_option maxHeartbeats 4000000
namespace Cm
open PySem Ip L2
/-! ### literals, kinds -/
def LitD (d : D) : Prop := (∃ i : Int, d = .int i ∧ -99 ≤ i ∧ i ≤ 99) ∨ ∃ w : Str, d = .str w ∧ 1 ≤ w.length ∧ w.length ≤ 6
def LiteralOk (cl : Cl) : Prop := ∀ {C : List (List D)} (st : Pl), Pok C st → ∃ d st', cl "_law_literal" [none] st = some (d, st') ∧ LitD d ∧ Pok C st'
def KindOk (cl : Cl) : Prop := ∀ {C : List (List D)} (st : Pl), Pok C st → ∃ d st', cl "_law_kind" [none] st = some (d, st') ∧ (d = .none ∨ d ∈ kindsD) ∧ Pok C st'
theorem literal_run {cl : Cl} (hd : DrawOk cl) (hw : WordOk cl) (st : Pl) {C : List (List D)} (h : Pok C st) : ∃ d st', runI 1 cl I_law_literal [none] st = some (d, st') ∧ LitD d ∧ Pok C st' := by
  have h6m : (6 : Nat) ≤ most := by decide
  obtain ⟨r, st1, e1, r0, r1, h1⟩ := hd 5 st h (by decide) (by decide)
  by_cases q0 : r = 0
  · subst q0
    obtain ⟨s, st2, e2, s0, s1, h2⟩ := hd 2 st1 h1 (by decide) (by decide)
    refine ⟨.int s, st2, ?_, .inl ⟨s, rfl, by omega, by omega⟩, h2⟩
    simp [runI, runF, I_law_literal, slOf, cmpD, eqD, Cst.d, e1, e2]
  by_cases q1 : r = 1
  · subst q1
    obtain ⟨s, st2, e2, s0, s1, h2⟩ := hd 199 st1 h1 (by decide) (by decide)
    refine ⟨.int (s - 99), st2, ?_, .inl ⟨s - 99, rfl, by omega, by omega⟩, h2⟩
    simp [runI, runF, I_law_literal, slOf, cmpD, eqD, binD, Cst.d, e1, e2]
  by_cases q2 : r = 2
  · subst q2
    obtain ⟨s, st2, e2, s0, s1, h2⟩ := hd 6 st1 h1 (by decide) (by decide)
    have hat := atI_of (xs := [PyData.int (-10), .int (-9), .int (-1), .int 2, .int 9, .int 10]) s0 (by simpa using s1)
    generalize hx : ([PyData.int (-10), .int (-9), .int (-1), .int 2, .int 9, .int 10])[s.toNat]'_ = x at hat
    have hm : x ∈ [PyData.int (-10), .int (-9), .int (-1), .int 2, .int 9, .int 10] := by rw [← hx]; exact List.getElem_mem _
    refine ⟨x, st2, ?_, ?_, h2⟩
    · simp [runI, runF, I_law_literal, slOf, cmpD, eqD, binD, ixD, Cst.d, e1, e2, h6m, hat]
    · simp only [List.mem_cons, List.not_mem_nil, or_false] at hm
      rcases hm with rfl | rfl | rfl | rfl | rfl | rfl <;> exact .inl ⟨_, rfl, by decide, by decide⟩
  by_cases q3 : r = 3
  · subst q3
    obtain ⟨s, st2, e2, s0, s1, h2⟩ := hd 10 st1 h1 (by decide) (by decide)
    refine ⟨.int s, st2, ?_, .inl ⟨s, rfl, by omega, by omega⟩, h2⟩
    simp [runI, runF, I_law_literal, slOf, cmpD, eqD, Cst.d, e1, e2]
  · obtain ⟨s, st2, e2, s0, s1, h2⟩ := hd 6 st1 h1 (by decide) (by decide)
    obtain ⟨w, st3, e3, hw, h3⟩ := hw "abcdefghijklmnopqrstuvwxyz" "abcdefghijklmnopqrstuvwxyz" s st2 h2 (by rw [l26]; decide) (by rw [l26]; decide) (by rw [l26]; decide) (by rw [l26]; decide) s0 (by omega)
    refine ⟨.str w, st3, ?_, .inr ⟨w, rfl, by rw [hw.len]; omega, by rw [hw.len]; omega⟩, h3⟩
    simp [runI, runF, I_law_literal, slOf, cmpD, eqD, Cst.d, e1, e2, e3, q0, q1, q2, q3]
theorem kind_run {cl : Cl} (hd : DrawOk cl) (hk : KindsOk cl) (st : Pl) {C : List (List D)} (h : Pok C st) : ∃ d st', runI 1 cl I_law_kind [none] st = some (d, st') ∧ (d = .none ∨ d ∈ kindsD) ∧ Pok C st' := by
  obtain ⟨r, st1, e1, r0, r1, h1⟩ := hd 2 st h (by decide) (by decide)
  by_cases q0 : r = 0
  · subst q0
    refine ⟨.none, st1, ?_, .inl rfl, h1⟩
    simp [runI, runF, I_law_kind, slOf, cmpD, eqD, Cst.d, e1]
  · obtain ⟨s, st2, e2, s0, s1, h2⟩ := hd 7 st1 h1 (by decide) (by decide)
    have hat := atI_of (xs := kindsD) s0 (by simpa [kindsD] using s1)
    generalize hx : kindsD[s.toNat]'_ = x at hat
    refine ⟨x, st2, ?_, .inr (by rw [← hx]; exact List.getElem_mem _), h2⟩
    simp [runI, runF, I_law_kind, slOf, cmpD, eqD, ixD, Cst.d, e1, e2, q0, hk st1, hat]
/-! ### sameness of a thing with itself -/
def scal : D → Prop
  | .none => True
  | .bool _ => True
  | .int _ => True
  | .str _ => True
  | _ => False
def dep : Nat → D → Prop
  | 0, d => scal d
  | n + 1, d => scal d ∨ ∃ xs, (d = .list xs ∨ d = .tuple xs) ∧ xs.length ≤ most ∧ ∀ x ∈ xs, dep n x
theorem dep_succ (n : Nat) (d : D) : dep (n + 1) d = (scal d ∨ ∃ xs, (d = .list xs ∨ d = .tuple xs) ∧ xs.length ≤ most ∧ ∀ x ∈ xs, dep n x) := rfl
theorem most_lt {n : Nat} (h : n ≤ most) : (n : Int) ≤ 100000 := by
  unfold most at h
  omega
/-- not one of the lists that are handed about -/
def notH (d : D) : Prop := ∀ e, d ≠ .dict e
def IsIntOk (cl : Cl) : Prop := ∀ (d : D) (st : Pl), notH d → cl "_law_is_int" [some d] st = some (.bool (isiD .int d && !isiD .bool d), st)
def SameOk (cl : Cl) (n : Nat) : Prop := ∀ (d : D) (st : Pl), dep n d → cl "_law_same" [some d, some d] st = some (.bool true, st)
theorem is_int_run (cl : Cl) (d : D) (st : Pl) (hn : notH d) : runI 1 cl I_law_is_int [some d] st = some (.bool (isiD .int d && !isiD .bool d), st) := by
  cases d with
  | dict e => exact absurd rfl (hn e)
  | _ => simp [runI, runF, I_law_is_int, slOf, isiD]
theorem same_scal {cl : Cl} (hi : IsIntOk cl) (d : D) (st : Pl) (h : scal d) : runI 2 cl I_law_same [some d, some d] st = some (.bool true, st) := by
  have hi2 : ∀ i, cl "_law_is_int" [some (.int i)] st = some (.bool true, st) := fun i => hi _ _ (fun e h => by cases h)
  cases d with
  | none => simp [runI, runF, I_law_same, slOf, cmpD, Cst.d]
  | bool b => simp [runI, runF, I_law_same, slOf, cmpD, eqD, Cst.d, isiD]
  | int i => simp [runI, runF, I_law_same, slOf, cmpD, eqD, Cst.d, isiD, hi2]
  | str s => simp [runI, runF, I_law_same, slOf, cmpD, eqD, Cst.d, isiD]
  | _ => exact h.elim
theorem same_run {cl : Cl} {n : Nat} (hi : IsIntOk cl) (hs : SameOk cl n) (d : D) (st : Pl) (h : dep (n + 1) d) : runI 2 cl I_law_same [some d, some d] st = some (.bool true, st) := by
  rw [dep_succ] at h
  rcases h with h | ⟨xs, h, hl, hx⟩
  · exact same_scal hi d st h
  · have hrg : rngD 0 (xs.length : Int) = some ((List.range xs.length).map fun (k : Nat) => PyData.int (k : Int)) := rngD_nat (n := (xs.length : Int)) (Int.natCast_nonneg _) (most_lt hl)
    have at_ : ∀ i, i < xs.length → ∃ x, atI xs (i : Int) = some x ∧ dep n x := fun i hi => by
      refine ⟨_, atI_of (xs := xs) (r := (i : Int)) (by omega) (by omega), hx _ (List.getElem_mem _)⟩
    have key : ∀ d, d = .list xs ∨ d = .tuple xs → ∃ env', forG (fb cl (.one 2) (.cons (.iff (.not (.call "_law_same" (.cons (.ix (.var 0) (.var 2)) (.cons (.ix (.var 1) (.var 2)) .nil)))) (.cons (.ret (.cst (.bl false))) .nil) .nil) .nil))
        ((List.range xs.length).map fun (k : Nat) => PyData.int (k : Int)) [.im d, .im d, .no] st = some (.nx env' st) := fun d h => by
      obtain ⟨env', st', e, x, e2, e3⟩ := forG_nx (f := fb cl (.one 2) (.cons (.iff (.not (.call "_law_same" (.cons (.ix (.var 0) (.var 2)) (.cons (.ix (.var 1) (.var 2)) .nil)))) (.cons (.ret (.cst (.bl false))) .nil) .nil) .nil))
        (fun _ env s => ∃ x, env = [.im d, .im d, x] ∧ s = st) ((List.range xs.length).map fun (k : Nat) => PyData.int (k : Int)) [.im d, .im d, .no] st ⟨_, rfl, rfl⟩
        (fun i y env s hy ⟨x, e, e2⟩ => by
          subst e
          subst e2
          obtain ⟨hi2, rfl⟩ := rng_at hy
          obtain ⟨z, hz, hz2⟩ := at_ i hi2
          have hz3 := hs z s hz2
          refine ⟨[.im d, .im d, .im (.int i)], s, ?_, ⟨_, rfl, rfl⟩⟩
          rcases h with rfl | rfl <;> simp [fb_eq, sgD, ixD, hz, hz3])
      subst e3
      exact ⟨env', e⟩
    obtain ⟨env', e⟩ := key d h
    rcases h with rfl | rfl
    · simp [runI, runF, I_law_same, slOf, cmpD, eqD, biD, Cst.d, isiD, hrg, e]
    · simp [runI, runF, I_law_same, slOf, cmpD, eqD, biD, Cst.d, isiD, hrg, e]
end Cm

set_option Elab.async false
set_option linter.all false
set_option maxRecDepth 100000
set_option maxHeartbeats 4000000
namespace Ip
open PySem L2
/-! One step of a generator's evaluator; a generator's loop. -/
variable {cl : Cl}
def yb (cl : Cl) (j : Sg) (b : GRs) : D → List D → List Sl → Pl → Option GO := fun d ys env st => match sgD j d env with
  | some env1 => evGs cl b ys env1 st
  | none => none
theorem yb_eq (cl : Cl) (j : Sg) (b : GRs) (d : D) (ys : List D) (env : List Sl) (st : Pl) : yb cl j b d ys env st = match sgD j d env with
  | some env1 => evGs cl b ys env1 st
  | none => none := id rfl
@[simp] theorem q_G_pl {s : IS} {ys : List D} {env : List Sl} {st : Pl} : evG cl (.pl s) ys env st = (match evS cl s env st with
    | some (.nx env1 st1) => some (ys, env1, st1)
    | _ => none) := id rfl
@[simp] theorem q_G_yld {e : IE} {ys : List D} {env : List Sl} {st : Pl} : evG cl (.yld e) ys env st = (match ev cl e env st with
    | some (d, st1) => if ys.length < most then some (ys ++ [d], env, st1) else none
    | none => none) := id rfl
@[simp] theorem q_G_forr {j : Sg} {e : IE} {b : GRs} {ys : List D} {env : List Sl} {st : Pl} : evG cl (.forr j e b) ys env st = (match ev cl e env st with
    | some (x, st1) => (match itD x with
      | some ds => forY (yb cl j b) ds ys env st1
      | none => none)
    | none => none) := id rfl
@[simp] theorem q_G_iff {c : IE} {a b : GRs} {ys : List D} {env : List Sl} {st : Pl} : evG cl (.iff c a b) ys env st = (match ev cl c env st with
    | some (.bool true, st1) => evGs cl a ys env st1
    | some (.bool false, st1) => evGs cl b ys env st1
    | _ => none) := id rfl
@[simp] theorem q_Gs_nil {ys : List D} {env : List Sl} {st : Pl} : evGs cl .nil ys env st = some (ys, env, st) := id rfl
@[simp] theorem q_Gs_cons {s : GR} {r : GRs} {ys : List D} {env : List Sl} {st : Pl} : evGs cl (.cons s r) ys env st = (match evG cl s ys env st with
    | some (ys1, env1, st1) => evGs cl r ys1 env1 st1
    | none => none) := id rfl
theorem forY_nx {f : D → List D → List Sl → Pl → Option GO} (I : Nat → List D → List Sl → Pl → Prop) : ∀ (ds : List D) (n : Nat) (ys : List D) (env : List Sl) (st : Pl), I n ys env st →
    (∀ i d ys env st, ds[i]? = some d → I (n + i) ys env st → ∃ ys' env' st', f d ys env st = some (ys', env', st') ∧ I (n + i + 1) ys' env' st') → ∃ ys' env' st', forY f ds ys env st = some (ys', env', st') ∧ I (n + ds.length) ys' env' st'
  | [], n, ys, env, st, h, _ => ⟨ys, env, st, rfl, h⟩
  | d :: ds, n, ys, env, st, h, hs => by
    obtain ⟨ys1, env1, st1, e, h1⟩ := hs 0 d ys env st rfl h
    obtain ⟨ys2, env2, st2, e2, h2⟩ := forY_nx I ds (n + 1) ys1 env1 st1 h1 fun i d' ys' env' st' hi h' => by
      have h2 := hs (i + 1) d' ys' env' st' (by simpa using hi) (by rw [show n + (i + 1) = n + 1 + i by omega]; exact h')
      rw [show n + (i + 1) + 1 = n + 1 + i + 1 by omega] at h2
      exact h2
    refine ⟨ys2, env2, st2, ?_, by rw [show n + (d :: ds).length = n + 1 + ds.length by simp; omega]; exact h2⟩
    unfold forY
    rw [e]
    exact e2
theorem runG_of {n : Nat} {G : GF} {as : List (Option D)} {st st' : Pl} {ys : List D} {env env' : List Sl} (hl : as.length = n) (he : as.map slOf ++ List.replicate (G.n - as.length) .no = env) (h : evGs cl G.body [] env st = some (ys, env', st')) : runGI n cl G as st = some (.list ys, st') := by
  unfold runGI runG
  rw [if_pos hl, he, h]
end Ip

set_option Elab.async false
set_option linter.all false
set_option maxRecDepth 100000
set_option maxHeartbeats 4000000
/-! Dicts with text keys: the module's, and one made and read at once. -/
namespace Ip
open PySem PySem.Spec PyProof.Rows L2
theorem ix_kd {X : Cx} {d : Addr} {es : Array DictEntry} {n : Nat} (D : KDict X.K X.w d es n) : IxR X (fun x y H Q => ∃ (z : Str) (u0 : Value) (v0 : V), x = .ref d ∧ y = .str z ∧ PySem.W.nsIn X.K d z = some (some u0) ∧ RelV v0 u0 ∧ Q v0 H) := by
  intro value slice pins s σ H x y v u Q I rx ry h hs
  obtain ⟨z, u0, v0, rfl, rfl, e, r, q⟩ := h
  obtain rfl : v = Value.ref d := rx
  obtain ⟨t, rfl⟩ := ry
  have hm := PySem.W.mapOf_K (prog := X.prog) (w := X.w) I.kIn D.at_ D.lit
  exact tail_any hm.typeIs PySem.F.slot_dict_getitem.lookup (wpAny_getItem_of (PySem.strKind_is X.prog X.w z t) hm (PySem.W.find_K D.at_ e) ⟨v0, H, I.tok _, r, q⟩) hs
section
variable {Γ : Gam} {a : Expr} {i : IE} {pos p0 : Pos} {x : Str} {tab : List (Str × D)}
theorem kin_rd {cl : Cl} {neg : Bool} {env : List Sl} {st st' : Pl} {d : D} (he : ev cl (.kin neg tab i) env st = some (d, st')) : ∃ s st1, ev cl i env st = some (.str s, st1) ∧ d = .bool (neg != (tab.lookup s).isSome) ∧ st1 = st' := by
  unfold ev at he
  split at he
  · rename_i s st1 e1
    cases he
    exact ⟨s, _, e1, rfl, rfl⟩
  · cases he
theorem kin_se (n : Nat) (h : SE Γ a i) (hk : Γ.kd[n]? = some (x, tab) := by rfl) (hg : GlS Γ.sc x := by rfl) (hd : (x == ("__debug__" : Str)) = false := by decide) (hm : behindInMarks .In (.Name x p0) = false := by rfl) :
    SE Γ (.Compare a [.In] [.Name x p0] pos) (.kin false tab i) := fun X p o => by
  obtain ⟨dd, es, m, h1, D, h2⟩ := o.kd _ (List.mem_of_getElem? hk)
  refine PE_weak (pe_cmpR (op_in_kd D) (h X p o) (pe_glob (o.gl hg) h1 (v := .ref dd) rfl hd) hm) fun σ H Q q => ?_
  obtain ⟨st, B, M, F, env, d, st', r, he, k⟩ := q
  obtain ⟨s, st1, e1, rfl, rfl⟩ := kin_rd he
  refine ⟨st, B, M, F, env, _, st1, r, e1, fun v B1 H1 x1 r1 pv => ?_⟩
  cases pv
  obtain ⟨g1, g2⟩ := h2 s
  cases hz : tab.lookup s with
  | none =>
    refine ⟨s, none, rfl, rfl, g1 hz, ?_⟩
    rw [hz] at k
    exact k _ B1 H1 x1 r1 (.bl _)
  | some y =>
    obtain ⟨u, v, e, _, _⟩ := g2 y hz
    refine ⟨s, some u, rfl, rfl, e, ?_⟩
    rw [hz] at k
    exact k _ B1 H1 x1 r1 (.bl _)
theorem knin_se (n : Nat) (h : SE Γ a i) (hk : Γ.kd[n]? = some (x, tab) := by rfl) (hg : GlS Γ.sc x := by rfl) (hd : (x == ("__debug__" : Str)) = false := by decide) (hm : behindInMarks .NotIn (.Name x p0) = false := by rfl) :
    SE Γ (.Compare a [.NotIn] [.Name x p0] pos) (.kin true tab i) := fun X p o => by
  obtain ⟨dd, es, m, h1, D, h2⟩ := o.kd _ (List.mem_of_getElem? hk)
  refine PE_weak (pe_cmpR (op_notIn_kd D) (h X p o) (pe_glob (o.gl hg) h1 (v := .ref dd) rfl hd) hm) fun σ H Q q => ?_
  obtain ⟨st, B, M, F, env, d, st', r, he, k⟩ := q
  obtain ⟨s, st1, e1, rfl, rfl⟩ := kin_rd he
  refine ⟨st, B, M, F, env, _, st1, r, e1, fun v B1 H1 x1 r1 pv => ?_⟩
  cases pv
  obtain ⟨g1, g2⟩ := h2 s
  cases hz : tab.lookup s with
  | none =>
    refine ⟨s, none, rfl, rfl, g1 hz, ?_⟩
    rw [hz] at k
    exact k _ B1 H1 x1 r1 (.bl _)
  | some y =>
    obtain ⟨u, v, e, _, _⟩ := g2 y hz
    refine ⟨s, some u, rfl, rfl, e, ?_⟩
    rw [hz] at k
    exact k _ B1 H1 x1 r1 (.bl _)
theorem kin_st (n : Nat) (h : SE Γ a i) (hk : Γ.kd[n]? = some (x, tab) := by rfl) (hg : GlS Γ.sc x := by rfl) (hd : (x == ("__debug__" : Str)) = false := by decide) (hm : behindInMarks .In (.Name x p0) = false := by rfl) :
    ST Γ (.Compare a [.In] [.Name x p0] pos) (.kin false tab i) := fun X p o => by
  obtain ⟨dd, es, m, h1, D, h2⟩ := o.kd _ (List.mem_of_getElem? hk)
  refine PT_weak (pt_cmpR (op_in_kd D) (h X p o) (pe_glob (o.gl hg) h1 (v := .ref dd) rfl hd) hm) fun σ H Q q => ?_
  obtain ⟨st, B, M, F, env, d, st', r, he, k⟩ := q
  obtain ⟨s, st1, e1, ed, rfl⟩ := kin_rd he
  cases ed
  refine ⟨st, B, M, F, env, _, st1, r, e1, fun v B1 H1 x1 r1 pv => ?_⟩
  cases pv
  obtain ⟨g1, g2⟩ := h2 s
  cases hz : tab.lookup s with
  | none =>
    refine ⟨s, none, rfl, rfl, g1 hz, _, rfl, ?_⟩
    rw [hz] at k
    exact k B1 H1 x1 r1
  | some y =>
    obtain ⟨u, v, e, _, _⟩ := g2 y hz
    refine ⟨s, some u, rfl, rfl, e, _, rfl, ?_⟩
    rw [hz] at k
    exact k B1 H1 x1 r1
theorem knin_st (n : Nat) (h : SE Γ a i) (hk : Γ.kd[n]? = some (x, tab) := by rfl) (hg : GlS Γ.sc x := by rfl) (hd : (x == ("__debug__" : Str)) = false := by decide) (hm : behindInMarks .NotIn (.Name x p0) = false := by rfl) :
    ST Γ (.Compare a [.NotIn] [.Name x p0] pos) (.kin true tab i) := fun X p o => by
  obtain ⟨dd, es, m, h1, D, h2⟩ := o.kd _ (List.mem_of_getElem? hk)
  refine PT_weak (pt_cmpR (op_notIn_kd D) (h X p o) (pe_glob (o.gl hg) h1 (v := .ref dd) rfl hd) hm) fun σ H Q q => ?_
  obtain ⟨st, B, M, F, env, d, st', r, he, k⟩ := q
  obtain ⟨s, st1, e1, ed, rfl⟩ := kin_rd he
  cases ed
  refine ⟨st, B, M, F, env, _, st1, r, e1, fun v B1 H1 x1 r1 pv => ?_⟩
  cases pv
  obtain ⟨g1, g2⟩ := h2 s
  cases hz : tab.lookup s with
  | none =>
    refine ⟨s, none, rfl, rfl, g1 hz, _, rfl, ?_⟩
    rw [hz] at k
    exact k B1 H1 x1 r1
  | some y =>
    obtain ⟨u, v, e, _, _⟩ := g2 y hz
    refine ⟨s, some u, rfl, rfl, e, _, rfl, ?_⟩
    rw [hz] at k
    exact k B1 H1 x1 r1
theorem kget_rd {cl : Cl} {env : List Sl} {st st' : Pl} {d : D} (he : ev cl (.kget tab i) env st = some (d, st')) : ∃ s, ev cl i env st = some (.str s, st') ∧ tab.lookup s = some d := by
  unfold ev at he
  split at he
  · rename_i s st1 e1
    obtain ⟨z, h1, h2⟩ := Option.map_eq_some_iff.mp he
    cases h2
    exact ⟨s, e1, h1⟩
  · cases he
theorem kget_se (n : Nat) (h : SE Γ a i) (hk : Γ.kd[n]? = some (x, tab) := by rfl) (hg : GlS Γ.sc x := by rfl) (hd : (x == ("__debug__" : Str)) = false := by decide) (hs : PlainIx a := by intro _ _; rfl) :
    SE Γ (.Subscript (.Name x p0) a pos) (.kget tab i) := fun X p o => by
  obtain ⟨dd, es, m, h1, D, h2⟩ := o.kd _ (List.mem_of_getElem? hk)
  refine PE_weak (pe_ix (ix_kd D) (pe_glob (o.gl hg) h1 (v := .ref dd) rfl hd) (h X p o) hs) fun σ H Q q => ?_
  obtain ⟨st, B, M, F, env, d, st', r, he, k⟩ := q
  obtain ⟨s, e1, hz⟩ := kget_rd he
  refine ⟨st, B, M, F, env, _, st', r, e1, fun v B1 H1 x1 r1 pv => ?_⟩
  cases pv
  obtain ⟨u, v, e, rv, hp⟩ := (h2 s).2 d hz
  refine ⟨s, u, v, rfl, rfl, e, rv, k v B1 H1 x1 r1 ?_⟩
  have := hp B1
  rw [o.K] at this
  exact this
end
end Ip

set_option Elab.async false
set_option linter.all false
set_option maxRecDepth 100000
set_option maxHeartbeats 4000000
/-! A dict with text keys, made and read at once. -/
namespace Ip
open PySem PySem.Spec PyProof.Rows L2
section
variable {K : PySem.W.Frag} {p : Pa} {st : Pl} {B M F : Hp} {env : List Sl} {σ : L2.St} {H : Hp}
/-- a new object stands among the callers' own for a while -/
theorem Rel.inF (r : Rel K p st B M F env σ H) {q : Addr} {o : HO} (h : H q = none) : Rel K p st B M (upd F q o) env σ (upd H q o) where
  bs := {
    b := r.bs.b.right (r.bs.b.free h)
    f := fun c u e => by
      by_cases hc : c = q
      · subst hc
        rw [upd_same] at e ⊢
        exact e
      · rw [upd_ne hc] at e ⊢
        exact r.bs.f c u e
    d := fun c u e => by
      by_cases hc : c = q
      · subst hc
        exact r.bs.b.free h
      · rw [upd_ne hc] at e
        exact r.bs.d c u e
    pf := by
      rw [upd_ne (fun e => r.bs.pn h e.symm)]
      exact r.bs.pf
    pb := r.bs.pb
    pl := by
      obtain ⟨h1, h2⟩ := r.bs.pl
      exact ⟨by rw [upd_ne (fun e => r.bs.pn h e.symm)]; exact h1, h2⟩
    ce := r.bs.ce.up (fun k a hk => ⟨(r.bs.ce.b k a hk).1, by rw [upd_ne (r.bs.ce.ne h hk)]; exact (r.bs.ce.b k a hk).2.1⟩) (fun k a hk => by rw [upd_ne (r.bs.ce.ne h hk)])
      (fun t ht => ⟨(r.bs.ce.tn t ht).1, by rw [upd_ne (r.bs.ce.tne ht (.inl h))]; exact (r.bs.ce.tn t ht).2⟩) fun z => tabs_new z h }
  m := r.m.right (r.m.free h)
  md := fun a u e => by
    obtain ⟨g1, g2, g3⟩ := r.md a u e
    exact ⟨g1, by rw [upd_ne (ne_of_none e (r.m.free h))]; exact g2, g3⟩
  mc := r.mc
  mt := r.mt
  en := r.en
/-- and goes out of sight again, whatever is made of it -/
theorem Rel.outF {q : Addr} {o o' : HO} (r : Rel K p st B M (upd F q o) env σ H) (h : F q = none) (ho : ∀ ps, o ≠ .tbl ps) (hx : ∀ c nm, o ≠ LamX.CodeO c nm) : Rel K p st B M F env σ (upd H q o') := by
  have hq : H q = some o := r.bs.f q o upd_same
  have sub : ∀ c u, F c = some u → c ≠ q := fun c u e => ne_of_none e h
  have bq : B q = none := r.bs.d q o upd_same
  have mq : M q = none := by
    cases e : M q with
    | none => rfl
    | some u =>
      obtain ⟨_, g, _⟩ := r.md q u e
      rw [upd_same] at g
      cases g
  have pq : (p.a) ≠ q := fun e => by
    have z := r.bs.pf
    rw [e, upd_same] at z
    cases z
  have cq : ∀ k a, p.ca k = some a → a ≠ q := fun k a hk e => by
    have z := (r.bs.ce.b k a hk).2.1
    rw [e, upd_same] at z
    cases z
  have tq : ∀ t ∈ p.tb, t.1 ≠ q := fun t ht e => by
    have z := (r.bs.ce.tn t ht).2
    rw [e, upd_same] at z
    cases z
  refine ⟨⟨r.bs.b.right bq, fun c u e => ?_, fun c u e => r.bs.d c u (by rw [upd_ne (sub c u e)]; exact e), ?_, r.bs.pb, ?_, ?_⟩, r.m.right mq, fun a u e => ?_, r.mc, r.mt, r.en⟩
  · rw [upd_ne (sub c u e)]
    exact r.bs.f c u (by rw [upd_ne (sub c u e)]; exact e)
  · have z := r.bs.pf
    rw [upd_ne pq] at z
    exact z
  · obtain ⟨h1, h2⟩ := r.bs.pl
    exact ⟨by rw [upd_ne pq]; exact h1, h2⟩
  · refine r.bs.ce.up (fun k a hk => ⟨(r.bs.ce.b k a hk).1, ?_⟩) (fun k a hk => by rw [upd_ne (cq k a hk)]) (fun t ht => ⟨(r.bs.ce.tn t ht).1, ?_⟩) fun z t ht => ?_
    · have z := (r.bs.ce.b k a hk).2.1
      rw [upd_ne (cq k a hk)] at z
      exact z
    · have z := (r.bs.ce.tn t ht).2
      rw [upd_ne (tq t ht)] at z
      exact z
    · obtain ⟨ps, h1, h2, h3⟩ := z t ht
      refine ⟨ps, by rw [upd_ne (tq t ht)]; exact h1, h2, fun pos cv hc => ?_⟩
      obtain ⟨c, e1, e2⟩ := h3 pos cv hc
      exact ⟨c, e1, by rw [upd_ne (fun e => by rw [e, hq] at e2; exact hx _ _ (Option.some.inj e2))]; exact e2⟩
  · obtain ⟨g1, g2, g3⟩ := r.md a u e
    rw [upd_ne (ne_of_none e mq)] at g2
    exact ⟨g1, g2, g3⟩
/-- something that is no list stands among the callers' own -/
def addF (B M F : Hp) (c : Addr) (o : HO) : Hp := fun b => if b = c ∧ B b = none ∧ M b = none then some o else F b
theorem Rel.insF (r : Rel K p st B M F env σ H) {c : Addr} {o : HO} (h : H c = some o) (hl : ∀ xs, o ≠ .lst xs) (ht : ∀ ps, o ≠ .tbl ps) : Rel K p st B M (addF B M F c o) env σ H := by
  have ne : ∀ {a : Addr} {u : HO}, H a = some u → u ≠ o → a ≠ c := fun {a u} e n z => by
    rw [z, h] at e
    exact n (Option.some.inj e).symm
  have off : ∀ {a : Addr}, a ≠ c → Ip.addF B M F c o a = F a := fun {a} n => if_neg fun z => n z.1
  refine ⟨⟨r.bs.b, fun b u e => ?_, fun b u e => ?_, ?_, r.bs.pb, r.bs.pl, ⟨r.bs.ce.at_, fun k a hk => ?_, r.bs.ce.inj, fun t hm => ?_, r.bs.ce.tt⟩⟩, r.m, fun a u e => ?_, r.mc, r.mt, r.en⟩
  · unfold Ip.addF at e
    split at e
    · rename_i z
      cases e
      rw [z.1]
      exact h
    · exact r.bs.f b u e
  · unfold Ip.addF at e
    split at e
    · rename_i z
      exact z.2.1
    · exact r.bs.d b u e
  · rw [off (ne r.bs.pl.1 fun z => hl _ z.symm)]
    exact r.bs.pf
  · obtain ⟨xs, ds, _, h2, _⟩ := r.bs.ce.at_ k a hk
    rw [off (ne h2 fun z => hl _ z.symm)]
    exact r.bs.ce.b k a hk
  · obtain ⟨ps, h1, _⟩ := r.bs.ce.tt t hm
    rw [off (ne h1 fun z => ht _ z.symm)]
    exact r.bs.ce.tn t hm
  · obtain ⟨g1, g2, g3⟩ := r.md a u e
    refine ⟨g1, ?_, g3⟩
    unfold Ip.addF
    rw [if_neg (fun z => by rw [z.2.2] at e; cases e)]
    exact g2
theorem Rel.hasF {c : Addr} {o : HO} (r : Rel K p st B M (addF B M F c o) env σ H) (hB : ∀ u, B c = some u → u = o) (hM : ∀ u, M c = some u → u = o) {st' : Pl} {env' : List Sl} {σ' : L2.St} {B' H' : Hp} (x : Ex B B') (r' : Rel K p st' B' M (Ip.addF B M F c o) env' σ' H') : H' c = some o := by
  cases eb : B c with
  | some u =>
    rw [← hB u eb]
    exact r'.bs.b c u (x c u eb)
  | none =>
    cases em : M c with
    | some u =>
      rw [← hM u em]
      exact r'.m c u em
    | none => exact r'.bs.f c o (if_pos ⟨rfl, eb, em⟩)
theorem Rel.lessF {F' : Hp} (r : Rel K p st B M F' env σ H) (h : ∀ a o, F a = some o → F' a = some o) : Rel K p st B M F env σ H := by
  have no : ∀ {a : Addr}, F' a = none → F a = none := fun {a} e => by
    cases z : F a with
    | none => rfl
    | some u =>
      rw [h a u z] at e
      cases e
  exact ⟨⟨r.bs.b, fun b u e => r.bs.f b u (h b u e), fun b u e => r.bs.d b u (h b u e), no r.bs.pf, r.bs.pb, r.bs.pl, ⟨r.bs.ce.at_, fun k a hk => ⟨(r.bs.ce.b k a hk).1, no (r.bs.ce.b k a hk).2.1, (r.bs.ce.b k a hk).2.2⟩, r.bs.ce.inj, fun t hm => ⟨(r.bs.ce.tn t hm).1, no (r.bs.ce.tn t hm).2⟩, r.bs.ce.tt⟩⟩, r.m,
    fun a u e => ⟨(r.md a u e).1, no (r.md a u e).2.1, (r.md a u e).2.2⟩, r.mc, r.mt, r.en⟩
/-- a name for what nobody speaks of -/
theorem Rel.hideN (r : Rel K p st B M F env σ H) (j : Nat) (v : V) : Rel K p st B M F (env.set j .no) (σ.set j (some v)) H := ⟨r.bs, r.m, r.md, r.mc, r.mt, {
  len := by rw [List.length_set, List.length_set]; exact r.en.len
  at_ := fun i s hi => by
    by_cases e : j = i
    · subst e
      have hl : j < env.length := by
        have := (List.getElem?_eq_some_iff.mp hi).1
        rw [List.length_set] at this
        exact this
      rw [List.getElem?_set_self hl] at hi
      cases hi
      exact ⟨some v, List.getElem?_set_self (by rw [← r.en.len]; exact hl), True.intro⟩
    · rw [List.getElem?_set_ne e] at hi
      obtain ⟨w, h1, h2⟩ := r.en.at_ i s hi
      exact ⟨w, by rw [List.getElem?_set_ne e]; exact h1, h2⟩
  ap := fun i k es fs b hi hk si sk => by
    have hne : ∀ {i : Nat} {es : List D}, (env.set j .no)[i]? = some (.ow es) → j ≠ i := fun {i es} hi e => by
      subst e
      have hl : j < env.length := by
        have := (List.getElem?_eq_some_iff.mp hi).1
        rw [List.length_set] at this
        exact this
      rw [List.getElem?_set_self hl] at hi
      cases hi
    have n1 := hne hi
    have n2 := hne hk
    rw [List.getElem?_set_ne n1] at hi si
    rw [List.getElem?_set_ne n2] at hk sk
    exact r.en.ap i k es fs b hi hk si sk
  io := fun i b es hp hi => by
    by_cases e : j = i
    · subst e
      have hl : j < env.length := by
        have := (List.getElem?_eq_some_iff.mp hi).1
        rw [List.length_set] at this
        exact this
      rw [List.getElem?_set_self hl] at hi
      cases hi
    · rw [List.getElem?_set_ne e] at hi ⊢
      exact r.en.io i b es hp hi }⟩
end
theorem PSs_len {X : Cx} {ss : List Stmt} {t t' : TS} (h : PSs X ss t) (w : ∀ D σ H, σ.length = X.N.length → t' D σ H → t D σ H) : PSs X ss t' := ⟨fun pins s σ H D I q => h.run pins s σ H D I (w D σ H I.len q)⟩
/-! ### the pairs of a display -/
/-- keys as texts -/
def txtK : List (Option Expr) → List Str → Prop
  | [], [] => True
  | some (.Constant (.str s) _ _) :: r, t :: ts => s = t ∧ txtK r ts
  | _, _ => False
theorem tlen_of {n m : Nat} (h : n = m) (h2 : m ≤ 15) : n ≤ 15 := by omega
inductive TPs (Γ : Gam) : List (Option Expr) → List Expr → List (Str × D) → Prop
  | nil : TPs Γ [] [] []
  | cons {s : Str} {j : Nat} {q : Pos} {v : Expr} {iv : IE} {d : D} {ks : List (Option Expr)} {vs : List Expr} {tab : List (Str × D)} : SE Γ v iv → (∀ env st, ev Γ.cl iv env st = some (d, st)) → TPs Γ ks vs tab → TPs Γ (some (.Constant (.str s) j q) :: ks) (v :: vs) ((s, d) :: tab)
def tpsT (K : PySem.W.Frag) (cl : Cl) (p : Pa) : List (Str × IE) → List (TE × TE)
  | [] => []
  | (s, i) :: r => (tC (.str s), Tx K cl p i) :: tpsT K cl p r
inductive PvR (K : PySem.W.Frag) (B : Hp) : List (Str × V) → List (Str × D) → Prop
  | nil : PvR K B [] []
  | cons {s : Str} {v : V} {d : D} {r : List (Str × V)} {t : List (Str × D)} : Rp K B v d → PvR K B r t → PvR K B ((s, v) :: r) ((s, d) :: t)
theorem PvR.look {K : PySem.W.Frag} {B : Hp} {z : Str} {dd : D} : ∀ {r : List (Str × V)} {t : List (Str × D)}, PvR K B r t → t.lookup z = some dd → ∃ v, r.lookup z = some v ∧ Rp K B v dd
  | _, _, .nil, h => by cases h
  | (s, v) :: r, (_, d) :: t, .cons h q, e => by
    rw [List.lookup_cons] at e ⊢
    by_cases hz : (z == s) = true
    · rw [hz] at e ⊢
      cases e
      exact ⟨v, rfl, h⟩
    · rw [Bool.not_eq_true] at hz
      rw [hz] at e ⊢
      exact q.look e
theorem PvR.len {K : PySem.W.Frag} {B : Hp} : ∀ {r : List (Str × V)} {t : List (Str × D)}, PvR K B r t → r.length = t.length
  | _, _, .nil => rfl
  | _, _, .cons _ q => congrArg Nat.succ q.len
theorem tps_len {Γ : Gam} : ∀ {ks : List (Option Expr)} {vs : List Expr} {tab : List (Str × D)}, TPs Γ ks vs tab → ks.length = tab.length
  | _, _, _, .nil => rfl
  | _, _, _, .cons _ _ t => congrArg Nat.succ (tps_len t)
theorem tps_pps {Γ : Gam} {X : Cx} {p : Pa} (o : Okx Γ X p) {pos : Pos} : ∀ {ks : List (Option Expr)} {vs : List Expr} {tab : List (Str × D)}, TPs Γ ks vs tab → ∃ trs, PPs X pos ks vs trs ∧
    ∀ {st : Pl} {B M F : Hp} {env : List Sl} {σ : L2.St} {H : Hp} {Q : List (V × V) → Hp → Prop}, Rel Γ.K p st B M F env σ H →
      (∀ (us : List (Str × V)) B2 H2, Ex B B2 → Rel Γ.K p st B2 M F env σ H2 → PvR Γ.K B2 us tab → Q (us.map fun z => (V.str z.1, z.2)) H2) → tPairs trs σ H Q
  | _, _, _, .nil => ⟨[], pps_nil, fun r k => k [] _ _ (Ex.refl _) r .nil⟩
  | _, _, _, .cons (s := s) (iv := iv) (d := d) h he t => by
    obtain ⟨trs, h1, h2⟩ := tps_pps o t
    refine ⟨(tC (.str s), Tx Γ.K Γ.cl p iv) :: trs, pps_cons pe_str (h X p o) h1, fun {st B M F env σ H Q} r k => ?_⟩
    show Tx Γ.K Γ.cl p iv σ H _
    refine ⟨st, B, M, F, env, d, st, r, he env st, fun v B1 H1 x1 r1 pv => ?_⟩
    refine h2 r1 fun us B2 H2 x2 r2 pu => ?_
    exact k ((s, v) :: us) B2 H2 (x1.trans x2) r2 (.cons (pv.mono x2) pu)
theorem PvR.keys {K : PySem.W.Frag} {B : Hp} : ∀ {r : List (Str × V)} {t : List (Str × D)}, PvR K B r t → r.map (·.1) = t.map (·.1)
  | _, _, .nil => rfl
  | _, _, .cons (s := s) _ q => congrArg (s :: ·) q.keys
theorem merge_look {z : Str} {v : V} : ∀ {us : List (Str × V)}, us.lookup z = some v → (us.map (·.1)).Nodup → valV (mergeK [] (us.map fun q => ((Sum.inr q.1 : L2.Key), q.2))) ((Sum.inr z : L2.Key)) = some v := by
  have gen : ∀ (us : List (Str × V)) (acc : List (L2.Key × V)), (us.map (·.1)).Nodup → valV (mergeK acc (us.map fun q => ((Sum.inr q.1 : L2.Key), q.2))) ((Sum.inr z : L2.Key)) = match us.lookup z with
      | some v => some v
      | none => valV acc ((Sum.inr z : L2.Key)) := by
    intro us
    induction us with
    | nil => intro acc _; rfl
    | cons q r ih =>
      intro acc hn
      obtain ⟨s, v⟩ := q
      rw [List.map_cons, List.nodup_cons] at hn
      show valV (mergeK (putK acc ((Sum.inr s : L2.Key)) v) (r.map fun q => ((Sum.inr q.1 : L2.Key), q.2))) ((Sum.inr z : L2.Key)) = _
      rw [ih _ hn.2, List.lookup_cons, valV_put]
      by_cases hz : z = s
      · subst hz
        rw [show (z == z) = true from beq_self_eq_true z]
        have : r.lookup z = none := by
          rw [List.lookup_eq_none_iff]
          intro q hq
          have : q.1 ≠ z := fun e => hn.1 (by rw [← e]; exact List.mem_map.mpr ⟨q, hq, rfl⟩)
          simpa using fun e => this e.symm
        rw [this]
        simp
      · rw [show (z == s) = false from by simpa using hz]
        cases r.lookup z with
        | some u => rfl
        | none => simp [show ¬ ((Sum.inr z : L2.Key) = (Sum.inr s : L2.Key)) from fun e => hz (by injection e)]
  intro us h hn
  rw [gen us [] hn, h]
section
variable {Γ : Gam} {a : Expr} {i : IE} {pos p0 p1 p2 p3 dp : Pos} {x : Str} {tab : List (Str × D)} {keys : List (Option Expr)} {vals : List Expr}
/-- x = {..}; return x[a] -/
theorem sss_ktab (j : Nat) (ht : TPs Γ keys vals tab) (h : SE Γ a i) (hN : Γ.N[j]? = some x := by rfl) (hl : Γ.sc.names.lookup x = some .local := by rfl) (hall : keys.all (·.isSome) = true := by rfl) (hlen : keys.length = vals.length := by rfl) (h0 : keys ≠ [] := by simp)
    (h15 : keys.length ≤ 15 := by decide) (hnd : (tab.map (·.1)).Nodup := by decide +kernel) (hs : NoSl a := by intro _ _; rfl) (hfr : Γ.fr = false := by rfl) (hd : (x == ("__debug__" : Str)) = false := by decide) (hcd : (x == ("__classdict__" : Str)) = false := by decide) (hsw : ∀ env, swapsWith (.Dict keys vals dp) (some (.Name x p0)) pos.line env = pure false := by intro _; rfl) :
    SSs Γ [.Assign [.Name x p0] (.Dict keys vals dp) pos, .Return (some (.Subscript (.Name x p1) a p2)) p3] (.cons (.hid j) (.cons (.ret (.kget tab i)) .nil)) := fun X p o => by
  obtain ⟨trs, h1, h2⟩ := tps_pps o.toOkx (pos := dp) ht
  refine PSs_len (pss_cons (ps_set (i := j) (by rw [o.N]; exact o.nd) (by rw [o.N]; exact hN) (by rw [o.sc]; exact .inl hl) (pe_disp h1 hall hlen h0 h15) (hsw _) (.inr (by rw [o.sc]; exact hl)))
    (pss_one (ps_ret (pe_dget (by have := o.units; omega) (pe_var (i := j) (by rw [o.N]; exact hN) (by rw [o.sc]; exact .inl hl) hd hcd) (h X p o.toOkx) hs)))) fun D σ H hln q => ?_
  obtain ⟨st, B, M, F, env, out, r, he, k⟩ := q
  have he2 : (match ev Γ.cl (.kget tab i) (env.set j .no) st with
    | some (x, st1) => some (Out.rt x st1)
    | none => none) = some out := by
    unfold evSs at he
    unfold evS at he
    simp only at he
    unfold evSs at he
    unfold evS at he
    cases e : ev Γ.cl (.kget tab i) (env.set j .no) st with
    | none =>
      rw [e] at he
      cases he
    | some z =>
      rw [e] at he
      exact he
  cases e1 : ev Γ.cl (.kget tab i) (env.set j .no) st with
  | none =>
    rw [e1] at he2
    cases he2
  | some z =>
    obtain ⟨d, st1⟩ := z
    rw [e1] at he2
    cases he2
    obtain ⟨s, e2, e3⟩ := kget_rd e1
    unfold tSeq tAsg tRet
    intro q hq
    have fq := r.freshM hq
    refine h2 (r.inF (o := .dK []) hq) fun us B2 H2 x2 r2 pu => ?_
    have h2q : H2 q = some (.dK []) := r2.bs.f q _ upd_same
    refine ⟨h2q, us.map fun q => ((Sum.inr q.1 : L2.Key), q.2), by rw [List.map_map]; rfl, by rw [List.length_map, pu.len, ← tps_len ht]; exact h15, ?_⟩
    have r3 := r2.outF (o' := .dK (mergeK [] (us.map fun q => ((Sum.inr q.1 : L2.Key), q.2)))) fq.2.2.1 (fun _ z => by cases z) (fun c nm z => by unfold LamX.CodeO at z; cases z)
    have r4 := (r3.hideN j (.ref q)).insF (c := q) upd_same (fun _ z => by cases z) fun _ z => by cases z
    refine ⟨.ref q, List.getElem?_set_self (by rw [hln, o.N]; exact (List.getElem?_eq_some_iff.mp hN).1), ?_⟩
    refine ⟨st, B2, M, _, env.set j .no, _, st1, r4, e2, fun v B5 H5 x5 r5 pv => ?_⟩
    cases pv
    have hk := r4.hasF (fun u e => by have z := r3.bs.b q u e; rw [upd_same] at z; exact (Option.some.inj z).symm) (fun u e => by have z := r3.m q u e; rw [upd_same] at z; exact (Option.some.inj z).symm) x5 r5
    obtain ⟨v, g1, g2⟩ := pu.look e3
    refine ⟨q, v, rfl, ?_, ?_⟩
    · have z := DGet.k (k := Sum.inr s) hk
      rw [merge_look g1 (by rw [pu.keys]; exact hnd)] at z
      exact z
    · have r6 := r5.lessF (F := F) fun a o e => by
        unfold Ip.addF
        rw [if_neg (fun z => by rw [z.1, fq.2.2.1] at e; cases e)]
        exact e
      exact k v B5 H5 ((x2.trans x5)) r6.bs (by rw [RtV.f (o.fr.trans hfr)]; exact g2.mono x5)
end
end Ip

set_option Elab.async false
set_option linter.all false
set_option maxRecDepth 100000
set_option maxHeartbeats 4000000
/-! A lambda with one parameter: made, called. -/
namespace Ip
open PySem PySem.Spec PyProof.Rows L2
open LamX (TabB CodeO TabS Tabs codeO_ne inv_table among_app)
section
variable {X : Cx} {pins : List (Addr × Obj)} {σ : L2.St} {H : Hp} {s : Shared}
/-- a lambda is made: of what is known only the table changes -/
theorem lam_new {c P : Addr} {params : Arguments} {body : Expr} {scope : Scope} {pos : Pos} {E : Value → Shared → Prop} {Q : Value → Shared → Prop} (I : Inv X pins σ H s) (TB : TabB X.base X.mg c P) (hcode : X.env.code = .ref c)
    (hT : TabS H P (X.env.qual ++ "<lambda>")) (hdef : defaultsOf params X.env = ([], [])) (hcl : closureFor scope X.env = pure [])
    (h : ∀ (f c' : Addr) (pm ctv : Value) (H1 : Hp) (s' : Shared), Inv X pins σ H1 s' → (∀ b o, b ≠ P → H b = some o → H1 b = some o) → TabS H1 P (X.env.qual ++ "<lambda>") →
      s'.heap.get? f = some (PySem.W.kla_obj "<lambda>" (X.env.qual ++ "<lambda>") params body scope [] pm c' ctv) → H1 f = none → f ∉ frs X.stack → H1 c' = some (CodeO c' (X.env.qual ++ "<lambda>")) → Q (.ref f) s') :
    wpAny (model X.prog X.w) X.A (eval (.Lambda params body scope pos) X.env) Q E s := by
  obtain ⟨ps, hP, ht, ha⟩ := hT
  have bP : s.heap.BuiltinsAt X.mg P := TB.bm.keeps I.bk
  have oP : s.heap.get? P = some { cls := .none, data := .fields ps } := I.hok P _ hP
  have out : ∀ f, s.heap.objs.size ≤ f → f ∉ frs X.stack := fun f hf hm => by
    rcases List.mem_cons.mp (I.stkSub _ hm) with e | e
    · have z := I.lt
      rw [← e] at z
      exact Nat.lt_irrefl _ (Nat.lt_of_lt_of_le z hf)
    · exact I.nofs hf e
  refine PySem.W.kla_eval hdef ?_
  cases hc : codeAmong pos ps.toList with
  | some cv =>
    obtain ⟨c', rfl, hk⟩ := ha pos cv hc
    refine PySem.W.kla_makeFunctionHit (mg := X.mg) (c := c) (P := P) (ps := ps) hcl I.ok.glob (I.mod.glob.keeps I.bk) hcode (TB.code.keeps I.bk) oP ht hc bP fun ctv h' tk hx hs => ?_
    exact h h'.objs.size c' _ ctv H _ (I.kept fun b o e => Heap.get?_push_of_some _ (hx b o e)) (fun _ _ _ e => e) ⟨ps, hP, ht, ha⟩ (Heap.get?_push_size _ rfl) (I.hok.fresh hs) (out _ hs) hk
  | none =>
    refine PySem.W.kla_makeFunction (mg := X.mg) (c := c) (P := P) (ps := ps) hcl I.ok.glob (I.mod.glob.keeps I.bk) hcode (TB.code.keeps I.bk) oP ht hc TB.gP bP fun c' ctv h' tk hx hge hlt hrec htb => ?_
    obtain ⟨c2, oc, vs, t, e2, hoc, hd, hv⟩ := hrec
    cases e2
    have nC : H c' = none := I.hok.fresh hge
    have hs : s.heap.objs.size ≤ h'.objs.size := by omega
    have J := inv_table (t' := tk) (more := #[rawInt pos.line, rawInt pos.col, .ref c']) (h' := h'.push (PySem.W.kla_obj "<lambda>" (X.env.qual ++ "<lambda>") params body scope [] ((X.mg "__name__").getD .none) c' ctv)) I hP
      (fun b o hb e => Heap.get?_push_of_some _ (hx b o hb e)) (Heap.get?_push_of_some _ htb) hge ⟨oc, vs, t, Heap.get?_push_of_some _ hoc, hd, hv⟩
    have same : ∀ b o, b ≠ P → H b = some o → upd (upd H P (.tbl (ps ++ #[rawInt pos.line, rawInt pos.col, .ref c']))) c' (CodeO c' (X.env.qual ++ "<lambda>")) b = some o := fun b o hb e => by
      rw [upd_ne (ne_of_none e nC), upd_ne hb]
      exact e
    refine h h'.objs.size c' _ ctv _ _ J same ⟨_, by rw [upd_ne (ne_of_none hP nC), upd_same], ?_, fun p cv e => ?_⟩ (Heap.get?_push_size _ rfl) ?_ (out _ hs) upd_same
    · rw [Array.toList_append]
      exact PySem.TriplesOk_snoc _ _ _ _ ht
    · rw [Array.toList_append] at e
      rcases among_app _ ht e with z | z
      · obtain ⟨c0, e1, e2⟩ := ha p cv z
        refine ⟨c0, e1, same _ _ (fun q => ?_) e2⟩
        rw [q, hP] at e2
        exact codeO_ne ps (Option.some.inj e2).symm
      · exact ⟨c', z, upd_same⟩
    · rw [upd_ne (Nat.ne_of_gt hlt), upd_ne (Nat.ne_of_gt (Nat.lt_of_lt_of_le (Heap.lt_size oP) hs))]
      exact I.hok.fresh hs
end
/-- a lambda with one parameter is called -/
theorem lam_run {CX : CXT} {P : Program} {w : World} {K : PySem.W.Frag} {mg : Str → Option Value} {base : Heap} {k : Nat} {f c' : Addr} {qual y : Str} {params : Arguments} {body : Expr} {scope : Scope} {pm ctv : Value} {N : List Str} (S : FnScope N [y] scope)
    (hbind : ∀ (pm cv ctv u : Value), bindArgs (PySem.W.kla_fn "<lambda>" qual params body scope [] pm cv ctv) ⟨[u], []⟩ = pure [(y, u)])
    {A : Around} {outer : List Env} {s : Shared} {H : Hp} {u : Value} {v : V} {Q : VK} {E : XK} (hf : s.heap.get? f = some (PySem.W.kla_obj "<lambda>" qual params body scope [] pm c' ctv)) (hc : H c' = some (CodeO c' qual))
    (hr : Room (k + 1) A) (e0 : Env0 P w K mg base A outer s H) (r : RelV v u)
    (hbody : Room k (A.deeper (envOfC qual scope s.heap.objs.size f (.ref c'))) → ∃ t, PE (cxOf CX P w K mg base N qual scope f (.ref c') A outer s H E) body t ∧ t (L2.start N [v]) H Q) :
    codeAny (model P w) A (.call (.ref f) ⟨[u], []⟩) (CR CX outer P w H s Q E) s := by
  have lim : s.heap.NoLimit := e0.mod.nolimit.keeps fun b o e => (e0.bs b o e).1
  have hkind : ∀ z ∈ ([y] : List Str).zip [u], scope.names.lookup z.1 = some .local ∨ (scope.names.lookup z.1 = some .cell ∧ ((cellsFrom (s.heap.objs.size + 1) scope.names []).lookup z.1).isSome = true) := fun ⟨n, v⟩ hy => by
    rcases S.par n (List.of_mem_zip hy).1 with q | q
    · exact .inl q
    · exact .inr ⟨q, PySem.W.cellsFrom_some _ _ _ (.inl q)⟩
  obtain ⟨⟨oc, vs, t, hoc, hdc, hvc⟩, _, _⟩ := e0.hok c' _ hc
  refine PySem.W.kla_callFunE hr.depth hf rfl S.co S.gen rfl ⟨c', oc, vs, t, rfl, hoc, hdc, hvc⟩ ?_
  rw [hbind]
  refine wpAny_pure (wpAny_newFunctionEnv_cells S.kind hkind fun env he s1 x => ?_)
  subst he
  refine ⟨lim.keeps x.toInCall.keep, ?_⟩
  obtain ⟨t, ht, hq⟩ := hbody (hr.deeper _)
  have I : Inv (cxOf CX P w K mg base N qual scope f (.ref c') A outer s H E) [] (L2.start N [v]) H s1 := inv_start (ps := [y]) S hr.hd e0 rfl (.cons r .nil) x
  refine PySem.W.kla_codeExpr (wpAny_mono (ht.run [] s1 (L2.start N [v]) H Q I hq) (fun z s' hs => ?_) fun e s' hs => hs)
  obtain ⟨w', H', J, rv, q⟩ := hs
  exact ⟨w', H', J.os, J.bare, J.base, J.hok, rv, q⟩
/-! ### over data -/
section
variable {K : PySem.W.Frag} {p : Pa} {st : Pl} {B M F : Hp} {env : List Sl} {σ : L2.St} {H : Hp}
/-- a table grows -/
theorem Rel.tab (r : Rel K p st B M F env σ H) {P : Addr} {q : Str} {H1 : Hp} (hp : p.tb = [(P, q)]) (k : ∀ b o, b ≠ P → H b = some o → H1 b = some o) (ht : TabS H1 P q) : Rel K p st B M F env σ H1 := by
  have mem : (P, q) ∈ p.tb := by rw [hp]; exact List.mem_cons_self
  obtain ⟨ps, hP, _⟩ := r.bs.ce.tt _ mem
  obtain ⟨tb, tf⟩ := r.bs.ce.tn _ mem
  have tm := r.mt _ mem
  have lst : ∀ a xs, H a = some (.lst xs) → H1 a = some (.lst xs) := fun a xs e => k a _ (fun z => by
    have hP : H P = some (.tbl ps) := hP
    rw [z, hP] at e
    cases e) e
  refine ⟨⟨fun c u e => k c u (ne_of_none e tb) (r.bs.b c u e), fun c u e => k c u (ne_of_none e tf) (r.bs.f c u e), r.bs.d, r.bs.pf, r.bs.pb, ⟨lst _ _ r.bs.pl.1, r.bs.pl.2⟩, ⟨fun n a hn => ?_, r.bs.ce.b, r.bs.ce.inj, r.bs.ce.tn, fun t ht' => ?_⟩⟩, fun c u e => k c u (ne_of_none e tm) (r.m c u e), r.md, r.mc, r.mt, r.en⟩
  · obtain ⟨xs, ds, h1, h2, h3⟩ := r.bs.ce.at_ n a hn
    exact ⟨xs, ds, h1, lst _ _ h2, h3⟩
  · rw [hp] at ht'
    rcases List.mem_cons.mp ht' with e | e
    · rw [e]
      exact ht
    · cases e
end
end Ip

set_option Elab.async false
set_option linter.all false
set_option maxRecDepth 100000
set_option maxHeartbeats 4000000
/-! min of a list by a lambda. -/
namespace Ip
open PySem PySem.Spec PyProof.Rows L2
open LamX (TabB CodeO TabS Tabs)
theorem vals_getV : ∀ {xs : List V} {us : List Value} {i : Nat} {u : Value}, Vals xs us → us[i]? = some u → ∃ x, xs[i]? = some x ∧ RelV x u
  | _, _, _, _, .nil, e => by simp at e
  | _, _, 0, _, .cons h _, e => by
    cases e
    exact ⟨_, rfl, h⟩
  | _, _, i + 1, u, .cons _ r, e => vals_getV (i := i) r e
/-- a list that is walked, its items told by what they are -/
theorem walk_lst {prog : Program} {w : World} {A : Around} (hh : A.handled = none) (I l : Addr) (hne : l ≠ I) (zs : List V) :
    WalksS prog w A I [I, l] [I] (fun a b => b = a) zs.length (fun i v => ∃ x, zs[i]? = some x ∧ RelV x v) (fun i s => s.heap.IsListIter I l i ∧ ∃ its : List Value, Vals zs its ∧ s.heap.IsList l its.toArray) where
  sub := fun b hb => by simp at hb; simp [hb]
  grefl := fun _ => rfl
  gtrans := fun _ _ _ h1 h2 => h2.trans h1
  frame := fun i s h' tk st _ hk => by
    obtain ⟨h1, its, h2, h3⟩ := st
    have z := (Walks.list (prog := prog) (w := w) hh I l hne its.toArray).frame i s.heap h' ⟨h1, h3⟩ hk
    exact ⟨z.1, its, h2, z.2⟩
  item := fun i s Q E hi st hQ => by
    obtain ⟨h1, its, h2, h3⟩ := st
    have hs : its.toArray.size = zs.length := by rw [List.size_toArray]; exact h2.length.symm
    refine (Walks.list (prog := prog) (w := w) hh I l hne its.toArray).toS.item i s Q E (by rw [hs]; exact hi) ⟨h1, h3⟩ fun v s' hv st' hm => ?_
    have hv : its.toArray[i]? = some v := hv
    rw [List.getElem?_toArray] at hv
    obtain ⟨x, e1, e2⟩ := vals_getV h2 hv
    exact hQ v s' ⟨x, e1, e2⟩ ⟨st'.1, its, h2, st'.2⟩ hm
  done := fun s Q E st hQ => by
    obtain ⟨h1, its, h2, h3⟩ := st
    have hs : its.toArray.size = zs.length := by rw [List.size_toArray]; exact h2.length.symm
    rw [← hs] at h1
    exact (Walks.list (prog := prog) (w := w) hh I l hne its.toArray).toS.done s Q E ⟨h1, h3⟩ hQ
  self := fun i s Q E st hQ => by
    obtain ⟨h1, its, h2, h3⟩ := st
    exact (Walks.list (prog := prog) (w := w) hh I l hne its.toArray).toS.self i s Q E ⟨h1, h3⟩ hQ
def btK (ks : List Int) (i j : Nat) : Bool := decide (ks.getD i 0 < ks.getD j 0)
theorem minG_best {ds : List D} {ks : List Int} (hl : ks.length = ds.length) : ∀ (m j : Nat) (b : D), ds.length - (j + 1) = m → j < ds.length → ds[argBest (btK ks) j]? = some b →
    ds[argBest (btK ks) (ds.length - 1)]? = some (minG b (ks.getD (argBest (btK ks) j) 0) (ds.drop (j + 1)) (ks.drop (j + 1))) := by
  intro m
  induction m with
  | zero =>
    intro j b hm hj hb
    have e : j = ds.length - 1 := by omega
    rw [List.drop_eq_nil_of_le (by omega)]
    subst e
    rw [hb]
    unfold minG
    rfl
  | succ m ih =>
    intro j b hm hj hb
    have h1 : j + 1 < ds.length := by omega
    have h2 : j + 1 < ks.length := by omega
    rw [List.drop_eq_getElem_cons h1, List.drop_eq_getElem_cons h2]
    have gk : ks.getD (j + 1) 0 = ks[j + 1] := by
      rw [List.getD_eq_getElem?_getD, List.getElem?_eq_getElem h2]
      rfl
    unfold minG
    have eb : argBest (btK ks) (j + 1) = if btK ks (j + 1) (argBest (btK ks) j) then j + 1 else argBest (btK ks) j := rfl
    by_cases c : ks[j + 1] < ks.getD (argBest (btK ks) j) 0
    · rw [if_pos c]
      have e : argBest (btK ks) (j + 1) = j + 1 := by
        rw [eb, if_pos]
        unfold btK
        rw [gk]
        exact decide_eq_true c
      have z := ih (j + 1) ds[j + 1] (by omega) h1 (by rw [e]; exact List.getElem?_eq_getElem h1)
      rw [e, gk] at z
      exact z
    · rw [if_neg c]
      have e : argBest (btK ks) (j + 1) = argBest (btK ks) j := by
        rw [eb, if_neg]
        have z : btK ks (j + 1) (argBest (btK ks) j) = false := by
          show decide (ks.getD (j + 1) 0 < ks.getD (argBest (btK ks) j) 0) = false
          rw [gk]
          exact decide_eq_false c
        rw [z]
        exact Bool.false_ne_true
      have z := ih (j + 1) b (by omega) h1 (by rw [e]; exact hb)
      rw [e] at z
      exact z
theorem minK_best {ds : List D} {ks : List Int} {d : D} (hl : ks.length = ds.length) (h : minK ds ks = some d) : 0 < ds.length ∧ ds[argBest (btK ks) (ds.length - 1)]? = some d := by
  match ds, ks, h with
  | b :: r, k :: t, h =>
    cases h
    refine ⟨Nat.succ_pos _, ?_⟩
    exact minG_best hl (r.length) 0 b (by simp) (Nat.succ_pos _) rfl
theorem keysK_get {f : D → Option (D × Pl)} {st : Pl} : ∀ {ds : List D} {ks : List Int}, keysK f st ds = some ks → ks.length = ds.length ∧ ∀ (i : Nat) (d : D), ds[i]? = some d → ∃ k, ks[i]? = some k ∧ f d = some (.int k, st)
  | [], ks, h => by
    cases h
    exact ⟨rfl, fun i d e => by simp at e⟩
  | d :: ds, ks, h => by
    unfold keysK at h
    split at h
    · rename_i k st' e
      by_cases c : st'.same st = true
      · rw [if_pos c] at h
        obtain ⟨ks', h1, rfl⟩ := Option.map_eq_some_iff.mp h
        obtain ⟨g1, g2⟩ := keysK_get h1
        have es := Pl.same_eq c
        subst es
        refine ⟨congrArg Nat.succ g1, fun i x ex => ?_⟩
        cases i with
        | zero =>
          cases ex
          exact ⟨k, rfl, e⟩
        | succ i => exact g2 i x ex
      · rw [if_neg c] at h
        cases h
    · cases h
/-- the lambda's own readings -/
def lamG (Γ : Gam) (y : Str) (scope : Scope) : Gam := { N := [y], sc := scope, K := Γ.K, cl := Γ.cl, fs := Γ.lx, bs := Γ.bs, xs := [], es := [] }
theorem rp_slOf {K : PySem.W.Frag} {B : Hp} {v : V} {d : D} (h : Rp K B v d) : slOf (some d) = .im d := by
  cases h <;> rfl
section
variable {Γ : Gam} {X : Cx} {p : Pa}
theorem Okx.lam (o : Okx Γ X p) (hh : Γ.hot = false) {y : Str} {scope : Scope} (S : FnScope [y] [y] scope) {qual : Str} {f : Addr} {cdv : Value} {s : Shared} {H : Hp} {E : XK} (hr : Room 0 (X.A.in1.deeper (envOfC qual scope s.heap.objs.size f cdv))) :
    Okx (lamG Γ y scope) (cxOf (L2N.CX X.prog X.w) X.prog X.w X.K X.mg X.base [y] qual scope f cdv X.A.in1 X.stack s H E) p.o where
  K := o.K
  N := rfl
  nd := S.nd
  sc := rfl
  calm := fun _ => rfl
  hotc := fun z => by cases z
  units := by
    have := hr.un
    show (X.A.in1.deeper (envOfC qual scope s.heap.objs.size f cdv)).units + 100 < cLine
    omega
  fn := fun _ g hg => by
    obtain ⟨fa, fd, ps, k, h1, h2, h3, h4, h5⟩ := o.lx hh g hg
    exact ⟨fa, fd, ps, k, h1, h2, h3, h4, ((h5.in1.mono (by omega : k + 1 ≤ k + 2)).deeper _)⟩
  fnh := fun g hg => by cases hg
  bl := o.bl
  xn := fun _ g hg => by cases hg
  er := fun _ q hq => by cases hq
  df := fun _ q hq => by cases hq
  gn := fun _ q hq => by cases hq
  lk := fun _ => rfl
  lkh := fun _ _ _ _ z => z.elim
  ef := ⟨fun q hq => by (cases hq), fun q hq => by (cases hq), fun q hq => by (cases hq), fun q hq => by (cases hq)⟩
  tb := o.tb
  kd := fun q hq => by cases hq
  lx := fun _ g hg => by cases hg
  lm := fun z => by cases z
end
end Ip

set_option Elab.async false
set_option linter.all false
set_option maxRecDepth 100000
set_option maxHeartbeats 4000000
namespace Ip
open PySem PySem.Spec PyProof.Rows L2
open LamX (TabB CodeO TabS Tabs)
section
variable {X : Cx} {pins : List (Addr × Obj)} {σ : L2.St} {H : Hp} {s : Shared}
theorem inv_moved (I : Inv X pins σ H s) {a b : Addr} {s' : Shared} (hm : Moved [a, b] (fun x y => y = x) s s') (ha : H a = none) (hb : H b = none)
    (hch : ∀ c ∈ [a, b], (c ∈ X.ex ∨ X.s_0.heap.objs.size ≤ c) ∧ c ≠ X.env.locals ∧ (∀ x d, X.env.cells.lookup x = some d → d ≠ c) ∧ ∀ p ∈ X.pn ++ pins, p.1 ≠ c) : Inv X pins σ H s' := by
  refine I.call' (ch := [a, b]) hm.os ⟨fun c o e _ _ hx => hm.heap c o hx e, fun c o e _ _ hx => ⟨o.slots, hm.heap c o hx e⟩, fun _ _ _ n _ => n, fun c o e hx => ⟨o, hm.heap c o hx e⟩, fun _ _ e => e, fun _ _ _ e => e, fun _ ps e => ⟨#[], by simpa using e⟩⟩ (fun c u e => ?_) (by rw [hm.gens]; exact I.bare) hch
  have nc : ∀ d u, H d = some u → d ∉ [a, b] := fun d u e hd => by
    rcases List.mem_cons.mp hd with z | hd
    · rw [z, ha] at e
      cases e
    · rcases List.mem_cons.mp hd with z | hd
      · rw [z, hb] at e
        cases e
      · cases hd
  refine (I.hok c u e).stay (fun d v hd q => hm.heap d v ?_ q) (fun d q => q) fun d xs q => q
  rcases hd with z | z
  · rw [z]
    exact nc c u e
  · exact nc d _ z
/-- what is new stands apart from all that the context speaks of -/
theorem inv_apart (I : Inv X pins σ H s) {c : Addr} (hc : s.heap.objs.size ≤ c) : H c = none ∧ c ∉ frs X.stack ∧ (c ∈ X.ex ∨ X.s_0.heap.objs.size ≤ c) ∧ c ≠ X.env.locals ∧ (∀ x d, X.env.cells.lookup x = some d → d ≠ c) ∧ ∀ p ∈ X.pn ++ pins, p.1 ≠ c := by
  have ne : ∀ {b : Addr} {o : Obj}, s.heap.get? b = some o → b ≠ c := fun {b o} e z => by
    rw [z] at e
    exact Nat.lt_irrefl _ (Nat.lt_of_lt_of_le (Heap.lt_size e) hc)
  refine ⟨I.hok.fresh hc, fun hm => ?_, .inr (Nat.le_trans I.sz hc), fun e => ?_, fun x d e => ?_, fun p hp => ne (I.pin p hp).1⟩
  · rcases List.mem_cons.mp (I.stkSub _ hm) with e | e
    · have z := I.lt
      rw [← e] at z
      exact Nat.lt_irrefl _ (Nat.lt_of_lt_of_le z hc)
    · exact I.nofs hc e
  · have z := I.lt
    rw [← e] at z
    exact Nat.lt_irrefl _ (Nat.lt_of_lt_of_le z hc)
  · obtain ⟨v, o, ho, _⟩ := I.cell x d e
    exact ne ho
end
end Ip

set_option Elab.async false
set_option linter.all false
set_option maxRecDepth 100000
set_option maxHeartbeats 4000000
namespace Ip
open PySem PySem.Spec PyProof.Rows L2
open LamX (TabB CodeO TabS Tabs)
theorem mink_ev {cl : Cl} {ie ib : IE} {env : List Sl} {st st' : Pl} {d : D} (h : ev cl (.mink ie ib) env st = some (d, st')) :
    ∃ ds ks, ev cl ie env st = some (.list ds, st') ∧ keysK (fun d => ev cl ib [.im d] st') st' ds = some ks ∧ minK ds ks = some d := by
  unfold ev at h
  split at h
  · rename_i ds st1 e1
    split at h
    · rename_i ks e2
      obtain ⟨z, e3, e4⟩ := Option.map_eq_some_iff.mp h
      cases e4
      exact ⟨ds, ks, e1, e2, e3⟩
    · cases h
  · cases h
section
variable {Γ : Gam} {e body : Expr} {ie ib : IE} {y g0 : Str} {params : Arguments} {scope : Scope} {lpos kp p0 pos : Pos}
theorem mink_se (he : SE Γ e ie) (hb : SE (lamG Γ y scope) body ib) (S : FnScope [y] [y] scope) (hh : Γ.hot = false := by rfl) (hlm : Γ.lm = true := by rfl) (hx : g0 ∈ Γ.lx := by exact List.mem_cons_self) (hbn : Γ.bs.contains "min" = true := by rfl) (hg : GlS Γ.sc "min" := by rfl)
    (hdef : ∀ env, defaultsOf params env = ([], []) := by intro _; rfl) (hcl : ∀ env, closureFor scope env = pure [] := by intro _; rfl)
    (hbind : ∀ (q : Str) (pm cv ctv u : Value), bindArgs (PySem.W.kla_fn "<lambda>" q params body scope [] pm cv ctv) ⟨[u], []⟩ = pure [(y, u)] := by intros; rfl)
    (hs : ∀ env, starEach [e] env = (false, eval e env) :: starEach [] env := by intro _; rfl)
    (he0 : ∀ env, backTo pos (starEach [e] env) = (false, eval e env) :: backTo pos (starEach [] env) := by intro _; rfl) (hpl : ∀ env, (backTo pos (starEach [e] env)).any (·.1) = false := by intro _; rfl)
    (hall : ∀ env, (backToKw pos (keywordEach [⟨some "key", .Lambda params body scope lpos, kp⟩] env)).all (·.1.isSome) = true := by intro _; rfl) (hno : ∀ env, (backToKw pos (keywordEach [⟨some "key", .Lambda params body scope lpos, kp⟩] env)).any (·.1.isNone) = false := by intro _; rfl)
    (hks : ∀ env, (backToKw pos (keywordEach [⟨some "key", .Lambda params body scope lpos, kp⟩] env)).filterMap (·.1) = [Str.ofString "key"] := by intro _; rfl) :
    SE Γ (.Call (.Name "min" p0) [e] [⟨some "key", .Lambda params body scope lpos, kp⟩] pos) (.mink ie ib) := fun X p o => ⟨fun pins s σ H Q I q => by
  obtain ⟨st, B, M, F, env, d, st1, r, hev, k⟩ := q
  obtain ⟨ds, ks, e1, e2, e3⟩ := mink_ev hev
  obtain ⟨kl, kg⟩ := keysK_get e2
  obtain ⟨hpos, hbest⟩ := minK_best kl e3
  obtain ⟨cc, P, hcode, TB, htab⟩ := o.lm hlm
  have htb : p.tb = [(P, X.env.qual ++ "<lambda>")] := by rw [o.tb, ← o.K]; exact htab
  obtain ⟨fa, fd, ps, kf, _, _, _, _, hroom⟩ := o.lx hh g0 hx
  refine wpAny_Call_Name_kw (ld_blt I (o.gl hg) (o.bl _ (List.contains_iff_mem.mp hbn)) (show bootBuiltins ("min" : Str) = some (.builtin "min") by decide +kernel) ?_ (by decide) (by decide))
  refine PyProof.Rows.callWith_kw (thn ((sa_cons he sa_nil hs X p o).run pos pins s σ H (fun vs H1 => ∃ l zs B1, vs = [V.ref l] ∧ Ex B B1 ∧ Rel Γ.K p st1 B1 M F env σ H1 ∧ B1 l = some (.lst zs) ∧ RpA Γ.K B1 zs ds) I ?ha) fun us s1 ⟨vs, H1, I1, rv, q1⟩ => ?_) (he0 _) (hpl _) (hall _) (hno _)
  case ha =>
    refine ⟨st, B, M, F, env, [.list ds], st1, r, by unfold ea; rw [e1]; rfl, fun vs B1 H1 x1 r1 pv => ?_⟩
    match vs, pv with
    | [_], .cons (@Rp.lst _ _ l zs _ hx rx) .nil => exact ⟨l, zs, B1, rfl, x1, r1, hx, rx⟩
  obtain ⟨l, zs, B1, rfl, x1, r1, hl, rx⟩ := q1
  have hlen : zs.length = ds.length := rx.length
  rw [hks]
  show wpAny _ _ (evalAll [(do let v ← eval (.Lambda params body scope lpos) X.env; standAt pos; pure v)]) _ _ s1
  have hT1 : TabS H1 P (X.env.qual ++ "<lambda>") := r1.bs.ce.tt (P, X.env.qual ++ "<lambda>") (by rw [htb]; exact List.mem_cons_self)
  refine wpAny_evalAll_cons (wpAny_bind (lam_new I1 TB hcode hT1 (hdef _) (hcl _) fun f c' pm ctv H2 s2 I2 keepN T2 hf hfn hfr hco => wpAny_bind (wpAny_standAt (wpAny_pure (wpAny_evalAll_nil ?_)))))
  have r2 := r1.tab htb keepN T2
  have notL : ∀ xs, CodeO c' (X.env.qual ++ "<lambda>") ≠ .lst xs := fun xs z => by
    unfold LamX.CodeO at z
    cases z
  have r3 := r2.insF hco notL LamX.codeO_ne
  rw [Vals.ref1 rv]
  show wpAny _ _ (call (.builtin "min") [.ref l] [(Str.ofString "key", .ref f)]) _ _ s2
  obtain ⟨its, hv, hpln, _⟩ := I2.list (a := l) (xs := zs) (.inl (.inl (r2.bs.b _ _ hl)))
  refine call_min_walkK (wpAny_pyIter_list hpln.isList ?_)
  have A0 := inv_apart I2 (Nat.le_refl s2.heap.objs.size)
  have szS : (s2.heap.push { cls := .type "list_iterator", data := .fields #[.ref l, .int 0 0] }).objs.size = s2.heap.objs.size + 1 := Heap.size_push ..
  have A1 := inv_apart I2 (c := s2.heap.objs.size + 1) (Nat.le_succ _)
  have hlt : l < s2.heap.objs.size := by
    obtain ⟨ob, ho, _⟩ := hpln.isList
    exact Heap.lt_size ho
  have hne : l ≠ s2.heap.objs.size := Nat.ne_of_lt hlt
  have I3 : Inv X pins σ H2 { s2 with heap := s2.heap.push { cls := .type "list_iterator", data := .fields #[.ref l, .int 0 0] } } := I2.kept (t' := s2.toks) fun b ob eb => Heap.get?_push_of_some _ eb
  have fKey : Room (kf + 2) X.A.in1 := hroom.in1
  let F1 := addF B1 M F c' (CodeO c' (X.env.qual ++ "<lambda>"))
  let fo := PySem.W.kla_obj "<lambda>" (X.env.qual ++ "<lambda>") params body scope [] pm c' ctv
  let J : Shared → Prop := fun sj => ∃ Bj Hj, Ex B1 Bj ∧ Inv X pins σ Hj sj ∧ Rel Γ.K p st1 Bj M F1 env σ Hj ∧ Hj s2.heap.objs.size = none ∧ Hj (s2.heap.objs.size + 1) = none ∧ sj.heap.get? f = some fo ∧ Hj f = none
  have flt : f < s2.heap.objs.size := Heap.lt_size hf
  have nf0 : f ∉ [s2.heap.objs.size + 1, s2.heap.objs.size] := fun z => by
    rcases List.mem_cons.mp z with z | z
    · exact absurd z (Nat.ne_of_lt (Nat.lt_succ_of_lt flt))
    · rcases List.mem_cons.mp z with z | z
      · exact absurd z (Nat.ne_of_lt flt)
      · cases z
  refine ⟨s2.heap.objs.size, [s2.heap.objs.size, l], [s2.heap.objs.size], _, zs.length, _, _, J, fun i k _ => ∃ n t, ks[i]? = some n ∧ k = .int n t, btK ks, rfl, walk_lst (A := X.A.in1) (I2.ok.hd (o.calm hh)) s2.heap.objs.size l hne zs, ⟨⟨_, Heap.get?_push_size _ rfl, rfl, rfl⟩, its, hv, ?_⟩, fun b hb => ?_, by rw [hlen]; exact hpos, ?_, ?_, fun v sv hP hJ => ?_⟩
  · obtain ⟨ob, ho, hr⟩ := hpln.isList
    exact ⟨ob, Heap.get?_push_of_some _ ho, hr⟩
  · show b < (s2.heap.push _).objs.size
    rw [szS]
    rcases List.mem_cons.mp hb with z | hb
    · rw [z]
      exact Nat.lt_succ_self _
    · rcases List.mem_cons.mp hb with z | hb
      · rw [z]
        exact Nat.lt_succ_of_lt hlt
      · cases hb
  · show KeyRun _ _ _ _ _ (s2.heap.push _).objs.size _ _ _ _ _ _ _ _
    rw [szS]
    refine ⟨fun sa sb ⟨Bj, Hj, xj, Ij, rj, n0, n1, g1, g2⟩ hm => ⟨Bj, Hj, xj, inv_moved Ij hm n1 n0 (fun c hc => ?_), rj, n0, n1, hm.heap f _ nf0 g1, g2⟩, fun i kk sa sb hV _ => hV, fun i v sa ob Qa Ea hi hP hJ hS hob hQ => ?_, fun i j ki kj sa Qa Ea hJ hVi hVj hQ => ?_⟩
    · rcases List.mem_cons.mp hc with z | hc
      · rw [z]
        exact A1.2.2
      · rcases List.mem_cons.mp hc with z | hc
        · rw [z]
          exact A0.2.2
        · cases hc
    · obtain ⟨Bj, Hj, xj, Ij, rj, n0, n1, g1, g2⟩ := hJ
      obtain ⟨x, hx1, hx2⟩ := hP
      obtain ⟨dd, hd1, hd2⟩ := rx.getV hx1
      obtain ⟨kk, hk1, hk2⟩ := kg i dd hd1
      have hcj : Hj c' = some (CodeO c' (X.env.qual ++ "<lambda>")) := r3.hasF (fun u eu => by
        have z := r2.bs.b c' u eu
        rw [hco] at z
        exact (Option.some.inj z).symm) (fun u eu => by
        have z := r2.m c' u eu
        rw [hco] at z
        exact (Option.some.inj z).symm) xj rj
      refine wpAny_call (codeAny_mono (lam_run (CX := L2N.CX X.prog X.w) (k := 0) (E := E0) (H := Hj) (Q := fun v' H'' => ∃ B'', v' = .int kk ∧ Ex Bj B'' ∧ Bs p st1 B'' (uni M F1) H'') S (hbind _) g1 hcj (fKey.mono (by omega)) Ij.env0.in1 hx2 (fun hr0 => ⟨_, hb _ p.o (o.lam hh S hr0), ?_⟩)) fun rr s' hq => ?_)
      · refine ⟨st1, Bj, fun _ => none, uni M F1, [.im dd], .int kk, st1, ?_, hk2, fun v' B'' H'' x'' r'' pv => ?_⟩
        · have z := rel_start (N := [y]) (rj.call).o (ArA.cons (p := p.o) (hd2.mono xj) .nil)
          rw [show (([some dd] : List (Option D)).map slOf ++ List.replicate (([y] : List Str).length - ([some dd] : List (Option D)).length) Sl.no) = [Sl.im dd] by
            show [slOf (some dd)] = _
            rw [rp_slOf hd2]] at z
          exact z
        · cases pv
          exact ⟨B'', rfl, x'', r''.bs.u⟩
      · cases rr with
        | error er =>
          obtain ⟨_, _, _, _, _, _, _, _, _, _, _, _, z⟩ := hq
          exact z.elim
        | ok fl =>
          cases fl with
          | next => exact False.elim hq
          | brk => exact False.elim hq
          | cont => exact False.elim hq
          | ret u =>
            obtain ⟨v', H'', os, bare, un, hok, rv', B'', rfl, x'', w⟩ := hq
            obtain ⟨tt, rfl⟩ := rv'
            have I4 : Inv X pins σ H'' s' := Ij.call' (ch := []) os un hok bare (fun b z => absurd z (by simp))
            have r4 := rj.back x'' w
            obtain ⟨⟨oi, hoi, hoi2⟩, _, _, _⟩ := hS
            have ki : s'.heap.get? s2.heap.objs.size = some oi := un.keep _ _ hoi n0 A0.2.1 (by simp)
            obtain ⟨its', hv', hp', _⟩ := I4.list (a := l) (xs := zs) (.inl (.inl (r4.bs.b _ _ (x'' _ _ (xj _ _ hl)))))
            exact hQ _ s' ⟨B'', H'', xj.trans x'', I4, r4, un.free _ _ hoi n0 (by simp), un.free _ _ hob n1 (by simp), un.keep _ _ g1 g2 hfr (by simp), un.free _ _ g1 g2 (by simp)⟩ ⟨⟨oi, ki, hoi2⟩, its', hv', hp'.isList⟩
              (un.keep _ _ hob n1 A1.2.1 (by simp)) ⟨kk, tt, hk1, rfl⟩ fun _ _ z => z
    · obtain ⟨n1, t1, h1, rfl⟩ := hVi
      obtain ⟨n2, t2, h2, rfl⟩ := hVj
      refine PyProof.Rows.lt_int ?_
      have e1 : ks.getD i 0 = n1 := by rw [List.getD_eq_getElem?_getD, h1]; rfl
      have e2 : ks.getD j 0 = n2 := by rw [List.getD_eq_getElem?_getD, h2]; rfl
      have z : btK ks i j = decide (n1 < n2) := by
        show decide (ks.getD i 0 < ks.getD j 0) = _
        rw [e1, e2]
      rw [← z]
      exact hQ
  · exact ⟨B1, H2, Ex.refl B1, I3, r3, A0.1, A1.1, Heap.get?_push_of_some _ hf, hfn⟩
  · obtain ⟨Bj, Hj, xj, Ij, rj, _, _, _, _⟩ := hJ
    obtain ⟨x, hx1, hx2⟩ := hP
    rw [hlen] at hx1
    obtain ⟨v2, hv2, rp⟩ := rx.get hbest
    rw [hx1] at hv2
    cases hv2
    refine ⟨x, Hj, Ij, hx2, k x Bj Hj (x1.trans xj) (rj.lessF fun a oa ea => ?_) (rp.mono xj)⟩
    show addF B1 M F c' _ a = some oa
    unfold addF
    split
    · rename_i z
      have z2 := r2.bs.f a oa ea
      rw [z.1, hco] at z2
      exact z2
    · exact ea⟩
end
end Ip

set_option Elab.async false
set_option linter.all false
set_option maxRecDepth 100000
set_option maxHeartbeats 4000000
/-! The head's hook with dicts of text keys and one table of code objects. -/
namespace Ip
open PySem L2 PySem.W He NdefX
abbrev AlU : Type := (AlF × List (Option (List (Option (Str × Int))))) × Bool
def obsU (P : Program) (fa : List Fa) (fn : List DefD) (er : List ErrD) (ex : Frag → Bool) (ts : List Tab) (K : Frag) : AlF × List (Option (List (Option (Str × Int)))) := (obsF P fa fn er ex K, ts.map fun t => dicW K (t.1 K))
def valU (fn : List DefD) (er : List ErrD) (ts : List Tab) (w : World) : AlF × List (Option (List (Option (Str × Int)))) := (valF fn er, ts.map fun t => some (keysIn w.params t.2))
def SaysU (P : Program) (fa : List Fa) (fn : List DefD) (er : List ErrD) (ex : Frag → Bool) (ts : List Tab) (w : World) (K : Frag) : Prop := obsU P fa fn er ex ts K = valU fn er ts w
/-- what is looked at: no empty table -/
def asU (g : Addr → Option Obj) (n : Nat) : List Addr := (asE g n).filter fun a => !emT (g a)
/-- the table of the lambda's maker -/
def tbU (g : Addr → Option Obj) (K : Frag) : Bool := lmB K lmN && emT (g (lmP K lmN))
def obsUG (n : Nat) (P : Program) (fa : List Fa) (fn : List DefD) (er : List ErrD) (ex : Frag → Bool) (ts : List Tab) (g : Addr → Option Obj) : AlU := (obsU P fa fn er ex ts (frG g (asU g n)), tbU g (frG g (asU g n)))
def hookU (n : Nat) (P : Program) (fa : List Fa) (fn : List DefD) (er : List ErrD) (ex : Frag → Bool) (ts : List Tab) : PySem.W.Hook where
  α := AlU
  obs := fun s => obsUG n P fa fn er ex ts s.heap.get?
  val := fun w => (valU fn er ts w, true)
  says := fun w h => ∃ K : Frag, K.In h ∧ SaysU P fa fn er ex ts w K ∧ lmB K lmN = true ∧ h.get? (lmP K lmN) = some { cls := .none, data := .fields #[] }
  of := fun w s e => by
    have e1 : obsU P fa fn er ex ts (frG s.heap.get? (asU s.heap.get? n)) = valU fn er ts w := congrArg (fun z : AlU => z.1) e
    have e2 : tbU s.heap.get? (frG s.heap.get? (asU s.heap.get? n)) = true := congrArg (fun z : AlU => z.2) e
    unfold tbU at e2
    rw [Bool.and_eq_true] at e2
    exact ⟨_, frG_in, e1, e2.1, emT_ok e2.2⟩
  keeps := fun _ _ _ q k => q.elim fun K q => ⟨K, PySem.W.Frag.In.keeps q.1 k, q.2.1, q.2.2.1, k _ _ q.2.2.2⟩
theorem obsUG_eq {n : Nat} {P : Program} {fa : List Fa} {fn : List DefD} {er : List ErrD} {ex : Frag → Bool} {ts : List Tab} {g : Addr → Option Obj} {s : Shared} (h : ∀ a, g a = s.heap.get? a) : obsUG n P fa fn er ex ts g = (hookU n P fa fn er ex ts).obs s := by
  obtain rfl : g = s.heap.get? := funext h
  rfl
section
variable {P : Program} {fa : List Fa} {fn : List DefD} {er : List ErrD} {ex : Frag → Bool} {ts : List Tab} {w : World} {K : Frag}
theorem SaysU.f (c : SaysU P fa fn er ex ts w K) : SaysF P fa fn er ex K := congrArg (fun z : AlF × List (Option (List (Option (Str × Int)))) => z.1) c
theorem SaysU.keys (c : SaysU P fa fn er ex ts w K) (i : Nat) {t : Tab} (h : ts[i]? = some t := by rfl) : dicW K (t.1 K) = some (keysIn w.params t.2) := by
  have e : ts.map (fun t => dicW K (t.1 K)) = ts.map fun t => some (keysIn w.params t.2) := congrArg (fun z : AlF × List (Option (List (Option (Str × Int)))) => z.2) c
  have e2 : (ts.map fun t => dicW K (t.1 K))[i]? = (ts.map fun t => some (keysIn w.params t.2))[i]? := by rw [e]
  rw [List.getElem?_map, List.getElem?_map, h] at e2
  exact Option.some.inj e2
end
/-- no such key -/
theorem dic_none {K : Frag} {P : Params} {a : Addr} {ks : List Str} {z : Str} (h : dicW K a = some (keysIn P ks)) (hz : z ∉ ks) : nsIn K a z = some none := by
  unfold dicW at h
  unfold nsIn
  cases q : K.lookup a with
  | none =>
    rw [q] at h
    cases h
  | some o =>
    obtain ⟨oc, od, dt, osl⟩ := o
    rw [q] at h
    cases oc with
    | type c =>
      cases od with
      | none =>
        cases dt with
        | dict es n =>
          have h1 : (match decide (c = "dict") && (osl.isEmpty && !(a == sysModules)) with
            | true => some (es.toList.map keyOf)
            | false => none) = some (keysIn P ks) := h
          have h2 : es.toList.map keyOf = keysIn P ks := by
            split at h1
            · exact Option.some.inj h1
            · cases h1
          have key : ∀ (l : List DictEntry) (ks : List Str), l.map keyOf = keysIn P ks → z ∉ ks → l.find? (·.key.isStr z) = none ∧ l.any (·.refKey) = false := by
            intro l
            induction l with
            | nil => intro ks _ _; exact ⟨rfl, rfl⟩
            | cons e r ih =>
              intro ks hk hn
              cases ks with
              | nil => cases hk
              | cons k ks =>
                have hk : keyOf e :: r.map keyOf = some (k, PyData.keyHash P k) :: keysIn P ks := hk
                injection hk with hk1 hk2
                obtain ⟨g1, g2⟩ := ih ks hk2 (fun m => hn (List.mem_cons_of_mem _ m))
                unfold keyOf at hk1
                split at hk1
                · rename_i x t hx
                  have hxk : x = k := (Prod.mk.inj (Option.some.inj hk1)).1
                  have ne : x ≠ z := fun ez => hn (by rw [← ez, hxk]; exact List.mem_cons_self)
                  refine ⟨?_, ?_⟩
                  · rw [List.find?_cons]
                    have : e.key.isStr z = false := by
                      rw [hx]
                      simp [Value.isStr, ne]
                    rw [this]
                    exact g1
                  · rw [List.any_cons, g2]
                    have : e.refKey = false := by
                      unfold DictEntry.refKey
                      rw [hx]
                    rw [this]
                    rfl
                · cases hk1
          obtain ⟨g1, g2⟩ := key _ _ h2 hz
          show (match es.toList.find? (·.key.isStr z) with
            | some e => some (some e.val)
            | none => if es.toList.any (·.refKey) then none else some none) = some none
          rw [g1, g2]
          rfl
        | _ => cases h
      | some b => cases dt <;> cases h
    | _ => cases od <;> cases dt <;> cases h
/-! ### a dict's values -/
inductive Tv where
  | one (c : Cst)
  | tup (cs : List Cst)
def Tv.d : Tv → D
  | .one c => c.d
  | .tup cs => .tuple (cs.map Cst.d)
def tupAB (K : Frag) (t : Addr) (cs : List Cst) : Bool := match K.lookup t with
  | some ⟨.type c, _, .seq its _, _⟩ => decide (c = "tuple") && (decide (its.size ≤ sizeLine) && relAll ((cs.map dvD).map (Dv.v K)) its.toList)
  | _ => false
def tvO (K : Frag) (u : Value) : Tv → Bool
  | .one c => relB ((dvD c).v K) u
  | .tup cs => (match u with
    | .ref t => tupAB K t cs
    | _ => false)
theorem tvO_ok {K : Frag} {u : Value} : ∀ {t : Tv}, tvO K u t = true → ∃ v, RelV v u ∧ ∀ B, Rp K B v t.d
  | .one c, h => ⟨(dvD c).v K, relB_ok h, fun B => by
      have z := dv_rp (K := K) (B := B) [c]
      cases z with
      | cons h _ => exact h⟩
  | .tup cs, h => by
    cases u with
    | ref t =>
      have h : tupAB K t cs = true := h
      unfold tupAB at h
      cases q : K.lookup t with
      | none =>
        rw [q] at h
        cases h
      | some o =>
        rw [q] at h
        obtain ⟨oc, od, dt, osl⟩ := o
        cases oc with
        | type c =>
          cases dt with
          | seq its n =>
            have h : (decide (c = "tuple") && (decide (its.size ≤ sizeLine) && relAll ((cs.map dvD).map (Dv.v K)) its.toList)) = true := h
            rw [Bool.and_eq_true, Bool.and_eq_true] at h
            exact ⟨.ref t, rfl, fun B => .tup (.inr ⟨_, its, n, q, congrArg Value.type (of_decide_eq_true h.1), rfl, of_decide_eq_true h.2.1, relAll_ok h.2.2⟩) (dv_rp cs)⟩
          | _ => cases h
        | _ => cases dt <;> cases h
    | _ => cases h
def tvB (K : Frag) (a : Addr) (kvs : List (Str × Tv)) : Bool := kvs.all fun q => match nsIn K a q.1 with
  | some (some u) => tvO K u q.2
  | _ => false
theorem tvB_ok {K : Frag} {a : Addr} {kvs : List (Str × Tv)} (h : tvB K a kvs = true) {q : Str × Tv} (hq : q ∈ kvs) : ∃ u v, nsIn K a q.1 = some (some u) ∧ RelV v u ∧ ∀ B, Rp K B v q.2.d := by
  have h2 := List.all_eq_true.mp h q hq
  cases e : nsIn K a q.1 with
  | none =>
    rw [e] at h2
    cases h2
  | some r =>
    rw [e] at h2
    cases r with
    | none => cases h2
    | some u =>
      obtain ⟨v, h3, h4⟩ := tvO_ok h2
      exact ⟨u, v, rfl, h3, h4⟩
theorem look_mem {z : Str} {dd : D} : ∀ {kvs : List (Str × Tv)}, (kvs.map fun q => (q.1, q.2.d)).lookup z = some dd → ∃ t, (z, t) ∈ kvs ∧ t.d = dd
  | [], h => by cases h
  | (s, t) :: r, h => by
    rw [List.map_cons, List.lookup_cons] at h
    by_cases c : (z == s) = true
    · rw [c] at h
      cases h
      exact ⟨t, by rw [eq_of_beq c]; exact List.mem_cons_self, rfl⟩
    · rw [Bool.not_eq_true] at c
      rw [c] at h
      obtain ⟨t2, h1, h2⟩ := look_mem h
      exact ⟨t2, List.mem_cons_of_mem _ h1, h2⟩
theorem look_not {z : Str} : ∀ {kvs : List (Str × Tv)}, (kvs.map fun q => (q.1, q.2.d)).lookup z = none → z ∉ kvs.map (·.1)
  | [], _ => by simp
  | (s, t) :: r, h => by
    rw [List.map_cons, List.lookup_cons] at h
    by_cases c : (z == s) = true
    · rw [c] at h
      cases h
    · have c2 := c
      rw [Bool.not_eq_true] at c
      rw [c] at h
      rw [List.map_cons, List.mem_cons]
      rintro (e | e)
      · exact c2 (by rw [e]; exact beq_self_eq_true _)
      · exact look_not h e
theorem dct_at {K : Frag} {w : World} {mg : Str → Option Value} {x : Str} {kvs : List (Str × Tv)} (hm : mg x = some (.ref (ga K x))) (h : dicW K (ga K x) = some (keysIn w.params (kvs.map (·.1)))) (hv : tvB K (ga K x) kvs = true) : DctAt K w mg (x, kvs.map fun q => (q.1, q.2.d)) := by
  obtain ⟨es, n, D⟩ := dicW_ok h
  refine ⟨_, es, n, hm, D, fun z => ⟨fun e => dic_none h (look_not e), fun dd e => ?_⟩⟩
  obtain ⟨t, h1, rfl⟩ := look_mem e
  exact tvB_ok hv h1
end Ip

set_option Elab.async false
set_option linter.all false
set_option maxRecDepth 100000
set_option maxHeartbeats 4000000
/-! The def that makes a lambda. -/
namespace Ip
open PySem PySem.Spec PyProof.Rows L2
theorem Oks.lmOn {Γ : Gam} {X : Cx} {p : Pa} (o : Oks { Γ with lm := false } X p) (h : LmAt X) : Oks Γ X p :=
  { K := o.K, N := o.N, nd := o.nd, sc := o.sc, calm := o.calm, hotc := o.hotc, units := o.units, fn := o.fn, fnh := o.fnh, bl := o.bl, xn := o.xn, er := o.er, df := o.df, gn := o.gn, lk := o.lk, lkh := o.lkh, ef := ⟨o.ef.cl, o.ef.ki, o.ef.tr, o.ef.gc⟩, tb := o.tb, kd := o.kd, lx := o.lx, lm := fun _ => h, own := o.own, stk := o.stk, frm := o.frm, fnx := o.fnx, io := o.io, fr := o.fr, fi := o.fi, ff := o.ff }
section
variable {P : Program} {w : World} {K : PySem.W.Frag} {mg : Str → Option Value} {base : Heap}
theorem fn_okL {x qual : Str} {params : Arguments} {body : List Stmt} {scope : Scope} {f : Addr} {fd : FuncData} {N ps : List Str} {k : Nat} {Γ : Gam} {I : IF} {cl : Cl} {g : Str} {dvs : List V} {kws : List (Str × V)} (F : FunD K x qual params body scope dvs kws f fd) (S : FnScope N ps scope)
    (hh : Γ.hot = false) (hK : Γ.K = K) (hN : Γ.N = N) (hsc : Γ.sc = scope) (hb : SSs Γ body I.body) (hn : I.n = N.length)
    (hcl : ∀ as st d st', cl g as st = some (d, st') → as.length = ps.length ∧ runF Γ.cl I as st = some (d, st')) (a : Av P w K mg base k { Γ with lm := false })
    (hc : fd.code = .ref (lmC K lmN)) (hq : qual = lmN) (TB : LamX.TabB base mg (lmC K lmN) (lmP K lmN)) (hio : Γ.io = none := by rfl) (hfr : Γ.fr = false := by rfl) : FnOk P w K mg base (L2N.CX P w) (k + 1) f fd ps (spF K cl g) := by
  obtain ⟨oc, od, dV, kV, doc, pm, an, cdv, ct, osl, rfl, lk, hcd, _, _⟩ := F.ex
  refine fn_of lk hcd S (fun vs H Q E h => ?_) (fun A outer s H vs Q E hr h => ?_)
  · obtain ⟨p, st, B, F, as, d, st', _, _, ha, he, _⟩ := h
    rw [ha.length, (hcl _ _ _ _ he).1]
  · obtain ⟨p, st, B, F, as, d, st', hl, w1, ha, he, kk⟩ := h
    have o := a.oks hh hK hN S.nd hsc (outer := outer) (f := f) (qual := qual) (E := E) (H := H) hl.lk (by rw [hl.io]; exact hio.symm) (hl.fr.trans hfr.symm) hl.tb hr
    refine ⟨_, hb _ p (o.lmOn ⟨lmC K lmN, lmP K lmN, hc, TB, by rw [hq]; rfl⟩), ?_⟩
    rw [hK]
    exact run_end hl w1 ha hn (hcl _ _ _ _ he).2 kk
theorem fo_stepL {k : Nat} {f : Str} {st : Stmt} {N ps : List Str} {Γ : Gam} {I : IF} {cl : Cl} (h : Hv K mg f st ps) (S : FnScope N ps (defScope st)) (hh : Γ.hot = false) (hK : Γ.K = K) (hN : Γ.N = N) (hsc : Γ.sc = defScope st) (hb : SSs Γ (defBody st) I.body) (hn : I.n = N.length)
    (hcl : ∀ as s, cl f as s = runI ps.length Γ.cl I as s) (a : Av P w K mg base k { Γ with lm := false }) (hq : f = lmN) (hg : mg lmN = some (.ref (He.ga K lmN))) (hl : lmB K lmN = true) (TB : LamX.TabB base mg (lmC K lmN) (lmP K lmN)) (hio : Γ.io = none := by rfl) (hfr : Γ.fr = false := by rfl) : Fo P w K mg base (k + 1) cl f := by
  subst hq
  obtain ⟨fa, fd, dvs, F, hm, hbn⟩ := h
  have ea : fa = He.ga K lmN := by
    rw [hm] at hg
    cases hg
    rfl
  have hc : fd.code = .ref (lmC K lmN) := by
    obtain ⟨oc, od, dV, kV, doc, pm, an, cdv, ct, osl, e, lk, _⟩ := F.ex
    rw [ea] at lk
    exact (lmB_ok hl).2.1 _ _ lk rfl
  refine ⟨fa, fd, ps, fn_okL F S hh hK hN hsc hb hn (fun as s d s' e => ?_) a hc rfl TB hio hfr, hm, F.kp, hbn⟩
  rw [hcl] at e
  exact runI_of e
end
end Ip

set_option Elab.async false
set_option linter.all false
set_option maxRecDepth 100000
set_option maxHeartbeats 4000000
namespace Cm
open PySem Ip
/-! Trees of rows, in short: what several texts share. -/
def I_label_of : IF := ⟨2, (.cons (.ret (.js (.cons (.var 0) (.cons (.cst (.str ".")) (.cons (.var 1) .nil)))))
  .nil)⟩
def I_numbered_rows : IF := ⟨4, (.cons (.own 1 (.lst .nil))
  (.cons (.forr (.many [2, 3]) (.seq (.call "_deep_rows" (.cons (.ix (.var 0) (.cst (.int 4))) (.cons (.cst (.int 1)) .nil)))) (.cons (.app 1 (.tup (.cons (.bin .add (.olen 1) (.cst (.int 1))) (.cons (.var 2) (.cons (.var 3) .nil)))))
  .nil))
  (.cons (.frz [1] (.ret (.var 1)))
  .nil)))⟩
def I_row_at : IF := ⟨3, (.cons (.calm (.set 2 (.call "numbered_rows" (.cons (.var 0) .nil))))
  (.cons (.iff (.not (.chn .le .le (.cst (.int 1)) (.var 1) (.bi .len (.cons (.var 2) .nil)))) (.cons (.rse "NoRow" (.call "label_of" (.cons (.ix (.var 0) (.cst (.int 1))) (.cons (.var 1) .nil))))
  .nil) .nil)
  (.cons (.calm (.ret (.ix (.ix (.var 2) (.bin .sub (.var 1) (.cst (.int 1)))) (.cst (.int 2)))))
  .nil)))⟩
def I_size_of : IF := ⟨1, (.cons (.ret (.bi .len (.cons (.call "_deep_rows" (.cons (.var 0) (.cons (.cst (.int 1)) .nil))) .nil)))
  .nil)⟩
def I_closes : IF := ⟨2, (.cons (.iff (.not (.tru (.var 0))) (.cons (.ret (.cst (.bl false)))
  .nil) .nil)
  (.cons (.set 1 (.ix (.var 0) (.neg (.cst (.int 1)))))
  (.cons (.iff (.cmp .eq (.ix (.var 1) (.cst (.int 0))) (.cst (.str "if"))) (.cons (.ret (.and (.call "closes" (.cons (.ix (.var 1) (.cst (.int 2))) .nil)) (.call "closes" (.cons (.ix (.var 1) (.cst (.int 3))) .nil))))
  .nil) .nil)
  (.cons (.ret (.cmp .eq (.ix (.var 1) (.cst (.int 0))) (.cst (.str "return"))))
  .nil))))⟩
def I_inner_lists : IF := ⟨1, (.cons (.iff (.cmp .isin (.ix (.var 0) (.cst (.int 0))) (.tup (.cons (.cst (.str "if")) (.cons (.cst (.str "loop")) .nil)))) (.cons (.ret (.sl (.var 0) (.some (.cst (.int 2))) .non))
  .nil) .nil)
  (.cons (.ret (.tup .nil))
  .nil))⟩
def I_deep_rows : IF := ⟨5, (.cons (.own 2 (.lst .nil))
  (.cons (.forr (.one 3) (.seq (.var 0)) (.cons (.app 2 (.tup (.cons (.var 1) (.cons (.var 3) .nil))))
  (.cons (.forr (.one 4) (.seq (.call "inner_lists" (.cons (.var 3) .nil))) (.cons (.ext 2 (.call "_deep_rows" (.cons (.var 4) (.cons (.bin .add (.var 1) (.cst (.int 1))) .nil))))
  .nil))
  .nil)))
  (.cons (.frz [2] (.ret (.var 2)))
  .nil)))⟩
def I_law_inner : IF := ⟨1, (.cons (.iff (.cmp .eq (.ix (.var 0) (.cst (.int 0))) (.cst (.str "if"))) (.cons (.ret (.lst (.cons (.ix (.var 0) (.cst (.int 2))) (.cons (.ix (.var 0) (.cst (.int 3))) .nil))))
  .nil) .nil)
  (.cons (.iff (.cmp .eq (.ix (.var 0) (.cst (.int 0))) (.cst (.str "loop"))) (.cons (.ret (.lst (.cons (.ix (.var 0) (.cst (.int 2))) .nil)))
  .nil) .nil)
  (.cons (.ret (.lst .nil))
  .nil)))⟩
def I_law_numbered : IF := ⟨7, (.cons (.own 2 (.lst .nil))
  (.cons (.set 3 (.var 1))
  (.cons (.forr (.one 4) (.seq (.var 0)) (.cons (.app 2 (.tup (.cons (.var 3) (.cons (.var 4) .nil))))
  (.cons (.set 3 (.bin .add (.var 3) (.cst (.int 1))))
  (.cons (.forr (.one 5) (.seq (.call "_law_inner" (.cons (.var 4) .nil))) (.cons (.set 6 (.call "_law_numbered" (.cons (.var 5) (.cons (.var 3) .nil))))
  (.cons (.frz [2] (.own 2 (.bin .add (.var 2) (.var 6))))
  (.cons (.set 3 (.bin .add (.var 3) (.bi .len (.cons (.var 6) .nil))))
  .nil))))
  .nil))))
  (.cons (.frz [2] (.ret (.var 2)))
  .nil))))⟩
def I_law_operand : IF := ⟨2, (.cons (.iff (.and (.cmp .gt (.clen 1) (.cst (.int 0))) (.cmp .eq (.call "_law_draw" (.pool 0 (.cons (.cst (.int 2)) .nil))) (.cst (.int 1)))) (.cons (.ret (.tup (.cons (.cst (.str "name")) (.cons (.cix 1 (.call "_law_draw" (.pool 0 (.cons (.clen 1) .nil)))) .nil))))
  .nil) .nil)
  (.cons (.ret (.tup (.cons (.cst (.str "lit")) (.cons (.call "_law_literal" (.pool 0 .nil)) .nil))))
  .nil))⟩
def I_law_test : IF := ⟨3, (.cons (.set 2 (.call "_law_draw" (.pool 0 (.cons (.cst (.int 4)) .nil))))
  (.cons (.iff (.cmp .lt (.var 2) (.cst (.int 2))) (.cons (.ret (.tup (.cons (.cst (.str "lit")) (.cons (.var 2) .nil))))
  .nil) .nil)
  (.cons (.iff (.cmp .eq (.var 2) (.cst (.int 2))) (.cons (.ret (.tup (.cons (.cst (.str "same")) (.cons (.callx "_law_operand" (.pool 0 (.cell 1 .nil))) (.cons (.callx "_law_operand" (.pool 0 (.cell 1 .nil))) .nil)))))
  .nil) .nil)
  (.cons (.ret (.tup (.cons (.cst (.str "less")) (.cons (.callx "_law_operand" (.pool 0 (.cell 1 .nil))) (.cons (.callx "_law_operand" (.pool 0 (.cell 1 .nil))) .nil)))))
  .nil))))⟩
def I_law_defer : IF := ⟨3, (.cons (.set 2 (.ix (.lst (.cons (.cst (.str "always")) (.cons (.cst (.str "done")) (.cons (.cst (.str "fail")) .nil)))) (.call "_law_draw" (.pool 0 (.cons (.cst (.int 3)) .nil)))))
  (.cons (.iff (.and (.cmp .gt (.clen 1) (.cst (.int 0))) (.cmp .eq (.call "_law_draw" (.pool 0 (.cons (.cst (.int 2)) .nil))) (.cst (.int 1)))) (.cons (.ret (.tup (.cons (.cst (.str "defer")) (.cons (.var 2) (.cons (.tup (.cons (.cst (.str "set")) (.cons (.cix 1 (.call "_law_draw" (.pool 0 (.cons (.clen 1) .nil)))) (.cons (.callx "_law_operand" (.pool 0 (.cell 1 .nil))) .nil)))) .nil)))))
  .nil) .nil)
  (.cons (.ret (.tup (.cons (.cst (.str "defer")) (.cons (.var 2) (.cons (.tup (.cons (.cst (.str "print")) (.cons (.callx "_law_operand" (.pool 0 (.cell 1 .nil))) .nil))) .nil)))))
  .nil)))⟩
def I_law_exit_row : IF := ⟨10, (.cons (.cset 1 0 (.bin .sub (.cix 1 (.cst (.int 0))) (.cst (.int 1))))
  (.cons (.set 4 (.call "_law_draw" (.pool 0 (.cons (.cst (.int 12)) .nil))))
  (.cons (.iff (.cmp .lt (.var 4) (.cst (.int 4))) (.cons (.ret (.callx "_law_defer" (.pool 0 (.cell 2 .nil))))
  .nil) .nil)
  (.cons (.iff (.and (.cmp .lt (.var 4) (.cst (.int 7))) (.cmp .lt (.var 3) (.cst (.int 3)))) (.cons (.set 5 (.call "_law_draw" (.pool 0 (.cons (.cst (.int 3)) .nil))))
  (.cons (.iff (.cmp .eq (.cix 1 (.cst (.int 0))) (.cst (.int 0))) (.cons (.set 5 (.cst (.int 0)))
  .nil) .nil)
  (.cons (.iff (.cmp .gt (.var 5) (.cst (.int 0))) (.cons (.cset 1 0 (.bin .sub (.cix 1 (.cst (.int 0))) (.cst (.int 1))))
  .nil) .nil)
  (.cons (.set 6 (.callx "_law_test" (.pool 0 (.cell 2 .nil))))
  (.cons (.set 7 (.callx "_law_exit_rows" (.pool 0 (.cell 1 (.cell 2 (.cons (.bin .add (.var 3) (.cst (.int 1))) (.cons (.cmp .eq (.var 5) (.cst (.int 1))) .nil)))))))
  (.cons (.ret (.tup (.cons (.cst (.str "if")) (.cons (.var 6) (.cons (.var 7) (.cons (.callx "_law_exit_rows" (.pool 0 (.cell 1 (.cell 2 (.cons (.bin .add (.var 3) (.cst (.int 1))) (.cons (.cmp .eq (.var 5) (.cst (.int 2))) .nil)))))) .nil))))))
  .nil)))))) .nil)
  (.cons (.iff (.and (.cmp .lt (.var 4) (.cst (.int 9))) (.cmp .lt (.var 3) (.cst (.int 3)))) (.cons (.ret (.tup (.cons (.cst (.str "loop")) (.cons (.bin .add (.cst (.int 1)) (.call "_law_draw" (.pool 0 (.cons (.cst (.int 3)) .nil)))) (.cons (.callx "_law_exit_rows" (.pool 0 (.cell 1 (.cell 2 (.cons (.bin .add (.var 3) (.cst (.int 1))) (.cons (.cst (.bl false)) .nil)))))) .nil)))))
  .nil) .nil)
  (.cons (.iff (.and (.cmp .eq (.var 4) (.cst (.int 9))) (.cmp .eq (.var 3) (.cst (.int 1)))) (.cons (.cal 8 1 1)
  (.cons (.set 9 (.tup (.cons (.cst (.str "let")) (.cons (.lentc [8] (.call "_law_fresh" (.pool 0 (.cons (.var 8) .nil)))) (.cons (.cst .non) (.cons (.callx "_law_operand" (.pool 0 (.cell 2 .nil))) .nil))))))
  (.cons (.capp 8 (.ix (.var 9) (.cst (.int 1))))
  (.cons (.capp 2 (.ix (.var 9) (.cst (.int 1))))
  (.cons (.ret (.var 9))
  .nil))))) .nil)
  (.cons (.iff (.and (.cmp .eq (.var 4) (.cst (.int 10))) (.cmp .gt (.clen 2) (.cst (.int 0)))) (.cons (.ret (.tup (.cons (.cst (.str "set")) (.cons (.cix 2 (.call "_law_draw" (.pool 0 (.cons (.clen 2) .nil)))) (.cons (.callx "_law_operand" (.pool 0 (.cell 2 .nil))) .nil)))))
  .nil) .nil)
  (.cons (.iff (.and (.cmp .eq (.var 4) (.cst (.int 11))) (.cmp .gt (.clen 2) (.cst (.int 0)))) (.cons (.ret (.tup (.cons (.cst (.str "ask")) (.cons (.cix 2 (.call "_law_draw" (.pool 0 (.cons (.clen 2) .nil)))) .nil))))
  .nil) .nil)
  (.cons (.ret (.tup (.cons (.cst (.str "print")) (.cons (.callx "_law_operand" (.pool 0 (.cell 2 .nil))) .nil))))
  .nil)))))))))⟩
def I_law_exit_rows : IF := ⟨10, (.cons (.set 5 (.tup .nil))
  (.cons (.forr (.one 6) (.rng1 (.cst (.int 6))) (.cons (.iff (.and (.cmp .gt (.cix 1 (.cst (.int 0))) (.cst (.int 0))) (.cmp .gt (.call "_law_draw" (.pool 0 (.cons (.cst (.int 4)) .nil))) (.cst (.int 0)))) (.cons (.set 5 (.bin .add (.var 5) (.tup (.cons (.callx "_law_exit_row" (.pool 0 (.cell 1 (.cell 2 (.cons (.var 3) .nil))))) .nil))))
  .nil) .nil)
  .nil))
  (.cons (.iff (.not (.var 4)) (.cons (.ret (.var 5))
  .nil) .nil)
  (.cons (.iff (.and (.cmp .lt (.var 3) (.cst (.int 3))) (.and (.cmp .gt (.cix 1 (.cst (.int 0))) (.cst (.int 1))) (.cmp .eq (.call "_law_draw" (.pool 0 (.cons (.cst (.int 3)) .nil))) (.cst (.int 2))))) (.cons (.cset 1 0 (.bin .sub (.cix 1 (.cst (.int 0))) (.cst (.int 2))))
  (.cons (.set 7 (.callx "_law_test" (.pool 0 (.cell 2 .nil))))
  (.cons (.set 8 (.callx "_law_exit_rows" (.pool 0 (.cell 1 (.cell 2 (.cons (.bin .add (.var 3) (.cst (.int 1))) (.cons (.cst (.bl true)) .nil)))))))
  (.cons (.set 9 (.callx "_law_exit_rows" (.pool 0 (.cell 1 (.cell 2 (.cons (.bin .add (.var 3) (.cst (.int 1))) (.cons (.cst (.bl true)) .nil)))))))
  (.cons (.ret (.bin .add (.var 5) (.tup (.cons (.tup (.cons (.cst (.str "if")) (.cons (.var 7) (.cons (.var 8) (.cons (.var 9) .nil))))) .nil))))
  .nil))))) .nil)
  (.cons (.ret (.bin .add (.var 5) (.tup (.cons (.tup (.cons (.cst (.str "return")) (.cons (.callx "_law_operand" (.pool 0 (.cell 2 .nil))) .nil))) .nil))))
  .nil)))))⟩
def I_law_size : IF := ⟨3, (.cons (.set 1 (.cst (.int 0)))
  (.cons (.forr (.one 2) (.seq (.var 0)) (.cons (.set 1 (.bin .add (.var 1) (.cst (.int 1))))
  (.cons (.iff (.cmp .eq (.ix (.var 2) (.cst (.int 0))) (.cst (.str "if"))) (.cons (.set 1 (.bin .add (.bin .add (.var 1) (.call "_law_size" (.cons (.ix (.var 2) (.cst (.int 2))) .nil))) (.call "_law_size" (.cons (.ix (.var 2) (.cst (.int 3))) .nil))))
  .nil) .nil)
  (.cons (.iff (.cmp .eq (.ix (.var 2) (.cst (.int 0))) (.cst (.str "loop"))) (.cons (.set 1 (.bin .add (.var 1) (.call "_law_size" (.cons (.ix (.var 2) (.cst (.int 2))) .nil))))
  .nil) .nil)
  .nil))))
  (.cons (.ret (.var 1))
  .nil)))⟩
def I_law_closes : IF := ⟨2, (.cons (.iff (.cmp .eq (.bi .len (.cons (.var 0) .nil)) (.cst (.int 0))) (.cons (.ret (.cst (.bl false)))
  .nil) .nil)
  (.cons (.set 1 (.ix (.var 0) (.bin .sub (.bi .len (.cons (.var 0) .nil)) (.cst (.int 1)))))
  (.cons (.iff (.cmp .eq (.ix (.var 1) (.cst (.int 0))) (.cst (.str "return"))) (.cons (.ret (.cst (.bl true)))
  .nil) .nil)
  (.cons (.ret (.and (.cmp .eq (.ix (.var 1) (.cst (.int 0))) (.cst (.str "if"))) (.and (.call "_law_closes" (.cons (.ix (.var 1) (.cst (.int 2))) .nil)) (.call "_law_closes" (.cons (.ix (.var 1) (.cst (.int 3))) .nil)))))
  .nil))))⟩
def I_law_depths : IF := ⟨8, (.cons (.own 3 (.lst .nil))
  (.cons (.set 4 (.var 1))
  (.cons (.forr (.one 5) (.seq (.var 0)) (.cons (.app 3 (.tup (.cons (.var 4) (.cons (.var 2) (.cons (.var 5) .nil)))))
  (.cons (.set 4 (.bin .add (.var 4) (.cst (.int 1))))
  (.cons (.forr (.one 6) (.seq (.call "_law_inner" (.cons (.var 5) .nil))) (.cons (.set 7 (.call "_law_depths" (.cons (.var 6) (.cons (.var 4) (.cons (.bin .add (.var 2) (.cst (.int 1))) .nil)))))
  (.cons (.frz [3] (.own 3 (.bin .add (.var 3) (.var 7))))
  (.cons (.set 4 (.bin .add (.var 4) (.bi .len (.cons (.var 7) .nil))))
  .nil))))
  .nil))))
  (.cons (.frz [3] (.ret (.var 3)))
  .nil))))⟩
def H_law_same : IF := ⟨3, (.cons (.iff (.cmp .isN (.var 1) (.cst .non)) (.cons (.ret (.cmp .isN (.var 0) (.cst .non)))
  .nil) .nil)
  (.cons (.iff (.isi .bool (.var 1)) (.cons (.ret (.and (.isi .bool (.var 0)) (.cmp .eq (.var 0) (.var 1))))
  .nil) .nil)
  (.cons (.iff (.isi .int (.var 1)) (.cons (.ret (.and (.call (hotN "_law_is_int") (.cons (.var 0) .nil)) (.cmp .eq (.var 0) (.var 1))))
  .nil) .nil)
  (.cons (.iff (.isi .str (.var 1)) (.cons (.ret (.and (.isi .str (.var 0)) (.cmp .eq (.var 0) (.var 1))))
  .nil) .nil)
  (.cons (.iff (.and (.isi .list (.var 1)) (.not (.isi .list (.var 0)))) (.cons (.ret (.cst (.bl false)))
  .nil) .nil)
  (.cons (.iff (.and (.isi .tuple (.var 1)) (.not (.isi .tuple (.var 0)))) (.cons (.ret (.cst (.bl false)))
  .nil) .nil)
  (.cons (.iff (.cmp .ne (.bi .len (.cons (.var 0) .nil)) (.bi .len (.cons (.var 1) .nil))) (.cons (.ret (.cst (.bl false)))
  .nil) .nil)
  (.cons .stop
  (.cons (.ret (.cst (.bl true)))
  .nil)))))))))⟩
def H_law_is_int : IF := ⟨1, (.cons (.ret (.and (.isi .int (.var 0)) (.not (.isi .bool (.var 0)))))
  .nil)⟩
end Cm

set_option Elab.async false
set_option linter.all false
set_option maxRecDepth 100000
set_option maxHeartbeats 4000000
namespace K02
open PySem Ip
/-! The defs in short. -/
def t_ATOMS : List (Str × PyData) := [("any", (.tuple [(.int 0), (.int 1), (.int 2), (.int 3), (.int 4), (.int 5)])), ("num", (.tuple [(.int 0), (.int 1), (.int 2), (.int 3), (.int 4)])), ("nat", (.tuple [(.int 2), (.int 3), (.int 4)])), ("small", (.tuple [(.int 1), (.int 2), (.int 3)])), ("digit", (.tuple [(.int 2), (.int 3)])), ("bit", (.tuple [(.int 2)])), ("word", (.tuple [(.int 5)]))]
def t_law_atoms : List (Str × PyData) := [("any", (.list [(.int 0), (.int 1), (.int 2), (.int 3), (.int 4), (.int 5)])), ("num", (.list [(.int 0), (.int 1), (.int 2), (.int 3), (.int 4)])), ("nat", (.list [(.int 2), (.int 3), (.int 4)])), ("small", (.list [(.int 1), (.int 2), (.int 3)])), ("digit", (.list [(.int 2), (.int 3)])), ("bit", (.list [(.int 2)])), ("word", (.list [(.int 5)]))]
def I_atoms_of : IF := ⟨1, (.cons (.iff (.kin true t_ATOMS (.var 0)) (.cons (.rse "BadKind" (.var 0))
  .nil) .nil)
  (.cons (.calm (.ret (.kget t_ATOMS (.var 0))))
  .nil))⟩
def I_under : IF := ⟨5, (.cons (.set 2 (.call "atoms_of" (.cons (.var 0) .nil)))
  (.cons (.set 3 (.call "atoms_of" (.cons (.var 1) .nil)))
  (.cons (.calm (.ret (.bi .all (.cons (.lc 4 (.seq (.var 2)) .nil (.cmp .isin (.var 4) (.var 3))) .nil))))
  .nil)))⟩
def I_meet : IF := ⟨7, (.cons (.set 2 (.call "atoms_of" (.cons (.var 0) .nil)))
  (.cons (.set 3 (.call "atoms_of" (.cons (.var 1) .nil)))
  (.cons (.calm (.set 4 (.bi .tuple (.cons (.lc 5 (.seq (.var 2)) (.cons (.cmp .isin (.var 5) (.var 3)) .nil) (.var 5)) .nil))))
  (.cons (.calm (.forr (.one 6) (.seq (.con (.tuple [(.str "any"), (.str "num"), (.str "nat"), (.str "small"), (.str "digit"), (.str "bit"), (.str "word")]))) (.cons (.iff (.cmp .eq (.call "atoms_of" (.cons (.var 6) .nil)) (.var 4)) (.cons (.ret (.var 6))
  .nil) .nil)
  .nil)))
  (.cons (.calm (.ret (.cst .non)))
  .nil)))))⟩
def I_join : IF := ⟨3, (.cons (.set 2 (.bin .add (.call "atoms_of" (.cons (.var 0) .nil)) (.call "atoms_of" (.cons (.var 1) .nil))))
  (.cons (.calm (.ret (.call "_least_with" (.cons (.var 2) .nil))))
  .nil))⟩
def I_at_odds : IF := ⟨4, (.cons (.set 2 (.bin .add (.call "atoms_of" (.cons (.var 0) .nil)) (.call "atoms_of" (.cons (.var 1) .nil))))
  (.cons (.calm (.iff (.or (.call "under" (.cons (.var 0) (.cons (.var 1) .nil))) (.call "under" (.cons (.var 1) (.cons (.var 0) .nil)))) (.cons (.ret (.cst (.bl false)))
  .nil) .nil))
  (.cons (.ret (.qt (.bi .any (.cons (.lc 3 (.seq (.call "atoms_of" (.cons (.cst (.str "any")) .nil))) .nil (.cmp .notin (.var 3) (.var 2))) .nil))))
  .nil)))⟩
def I_least_with : IF := ⟨4, (.cons (.set 1 (.lc 2 (.seq (.con (.tuple [(.str "any"), (.str "num"), (.str "nat"), (.str "small"), (.str "digit"), (.str "bit"), (.str "word")]))) (.cons (.bi .all (.cons (.lc 3 (.seq (.var 0)) .nil (.cmp .isin (.var 3) (.call "atoms_of" (.cons (.var 2) .nil)))) .nil)) .nil) (.var 2)))
  (.cons (.ret (.mink (.var 1) (.bi .len (.cons (.call "atoms_of" (.cons (.var 0) .nil)) .nil))))
  .nil))⟩
abbrev I_law_mixed : IF := Cm.I_law_mixed
abbrev I_law_draw : IF := Cm.I_law_draw
abbrev I_law_kinds : IF := Cm.I_law_kinds
def I_law_atoms : IF := ⟨2, (.cons (.hid 1) (.cons (.ret (.kget t_law_atoms (.var 0))) .nil))⟩
def I_law_under : IF := ⟨4, (.cons (.set 2 (.call "_law_atoms" (.cons (.var 1) .nil)))
  (.cons (.ret (.bi .all (.cons (.lc 3 (.seq (.call "_law_atoms" (.cons (.var 0) .nil))) .nil (.cmp .isin (.var 3) (.var 2))) .nil)))
  .nil))⟩
abbrev I_law_word : IF := Cm.I_law_word
abbrev I_law_is_int : IF := Cm.I_law_is_int
abbrev I_law_same : IF := Cm.I_law_same
def I_law_signs : IF := ⟨1, (.cons (.set 0 (.cst (.str " !\"#$&'()*+,-./0123456789:;<=>?@ABCDEFGHIJKLMNOPQRSTUVWXYZ[\\]^_`")))
  (.cons (.ret (.bin .add (.var 0) (.cst (.str "abcdefghijklmnopqrstuvwxyz{|}~"))))
  .nil))⟩
def I_law_near_kind : IF := ⟨8, (.cons (.set 1 (.ix (.call "_law_kinds" .nil) (.call "_law_draw" (.pool 0 (.cons (.cst (.int 7)) .nil)))))
  (.cons (.set 2 (.call "_law_draw" (.pool 0 (.cons (.cst (.int 5)) .nil))))
  (.cons (.set 3 (.call "_law_draw" (.pool 0 (.cons (.bi .len (.cons (.var 1) .nil)) .nil))))
  (.cons (.set 4 (.call "_law_signs" .nil))
  (.cons (.set 5 (.cst (.str "abcdefghijklmnopqrstuvwxyz")))
  (.cons (.iff (.cmp .eq (.var 2) (.cst (.int 0))) (.cons (.ret (.bin .add (.sl (.var 1) .non (.some (.var 3))) (.sl (.var 1) (.some (.bin .add (.var 3) (.cst (.int 1)))) .non)))
  .nil) .nil)
  (.cons (.iff (.cmp .eq (.var 2) (.cst (.int 1))) (.cons (.ret (.bin .add (.bin .add (.sl (.var 1) .non (.some (.var 3))) (.me0 .upper (.ix (.var 1) (.var 3)))) (.sl (.var 1) (.some (.bin .add (.var 3) (.cst (.int 1)))) .non)))
  .nil) .nil)
  (.cons (.iff (.cmp .eq (.var 2) (.cst (.int 2))) (.cons (.ret (.bin .add (.bin .add (.sl (.var 1) .non (.some (.var 3))) (.ix (.var 4) (.call "_law_draw" (.pool 0 (.cons (.bi .len (.cons (.var 4) .nil)) .nil))))) (.sl (.var 1) (.some (.var 3)) .non)))
  .nil) .nil)
  (.cons (.iff (.cmp .eq (.var 2) (.cst (.int 3))) (.cons (.ret (.call "_law_word" (.pool 0 (.cons (.var 5) (.cons (.var 5) (.cons (.call "_law_draw" (.pool 0 (.cons (.cst (.int 6)) .nil))) .nil))))))
  .nil) .nil)
  (.cons (.set 6 (.cst (.str "")))
  (.cons (.forr (.one 7) (.rng1 (.call "_law_draw" (.pool 0 (.cons (.cst (.int 9)) .nil)))) (.cons (.set 6 (.bin .add (.var 6) (.ix (.var 4) (.call "_law_draw" (.pool 0 (.cons (.bi .len (.cons (.var 4) .nil)) .nil))))))
  .nil))
  (.cons (.ret (.var 6))
  .nil))))))))))))⟩
def I_law_answer : IF := ⟨3, (.cons (.iff (.cmp .eq (.var 0) (.cst (.int 0))) (.cons (.ret (.call "under" (.cons (.var 1) (.cons (.var 2) .nil))))
  .nil) .nil)
  (.cons (.iff (.cmp .eq (.var 0) (.cst (.int 1))) (.cons (.ret (.call "meet" (.cons (.var 1) (.cons (.var 2) .nil))))
  .nil) .nil)
  (.cons (.iff (.cmp .eq (.var 0) (.cst (.int 2))) (.cons (.ret (.call "join" (.cons (.var 1) (.cons (.var 2) .nil))))
  .nil) .nil)
  (.cons (.ret (.call "at_odds" (.cons (.var 1) (.cons (.var 2) .nil))))
  .nil))))⟩
def I_law_refused : IF := ⟨5, (.cons (.tri (.cons (.drop (.call "_law_answer" (.cons (.var 0) (.cons (.var 1) (.cons (.var 2) .nil)))))
  .nil) ["BadKind"] 4 (.cons (.iff (.or (.not (.exi 4 ["BadKind"] ["BadKind"])) (.exi 4 ["BadKind"] [])) (.cons (.ret (.cst (.bl false)))
  .nil) .nil)
  (.cons (.ret (.and (.exi 4 ["BadKind"] ["BadKind"]) (.call (hotN "_law_same") (.cons (.exf 4 ["BadKind"]) (.cons (.var 3) .nil)))))
  .nil)))
  (.cons (.ret (.cst (.bl false)))
  .nil))⟩
def I_law_refused_base : IF := ⟨4, (.cons (.tri (.cons (.drop (.call "_law_answer" (.cons (.var 0) (.cons (.var 1) (.cons (.var 2) .nil)))))
  .nil) ["BadKind"] 3 (.cons (.ret (.exi 3 ["BadKind"] ["BadKind"]))
  .nil))
  (.cons (.ret (.cst (.bl false)))
  .nil))⟩
def I_law_bounds_told : IF := ⟨9, (.cons (.set 4 (.bin .add (.call "_law_atoms" (.cons (.var 0) .nil)) (.call "_law_atoms" (.cons (.var 1) .nil))))
  (.cons (.forr (.one 5) (.seq (.call "_law_kinds" .nil)) (.cons (.set 6 (.call "_law_atoms" (.cons (.var 5) .nil)))
  (.cons (.set 7 (.bi .all (.cons (.lc 8 (.seq (.var 4)) .nil (.cmp .isin (.var 8) (.var 6))) .nil)))
  (.cons (.iff (.and (.cmp .eq (.var 5) (.var 3)) (.not (.var 7))) (.cons (.ret (.cst (.bl false)))
  .nil) .nil)
  (.cons (.iff (.and (.var 7) (.not (.call "_law_under" (.cons (.var 3) (.cons (.var 5) .nil))))) (.cons (.ret (.cst (.bl false)))
  .nil) .nil)
  (.cons (.iff (.and (.call "_law_under" (.cons (.var 5) (.cons (.var 0) .nil))) (.call "_law_under" (.cons (.var 5) (.cons (.var 1) .nil)))) (.cons (.iff (.or (.cmp .isN (.var 2) (.cst .non)) (.not (.call "_law_under" (.cons (.var 5) (.cons (.var 2) .nil))))) (.cons (.ret (.cst (.bl false)))
  .nil) .nil)
  .nil) .nil)
  .nil))))))
  (.cons (.ret (.cst (.bl true)))
  .nil)))⟩
def I_law_pair_told : IF := ⟨11, (.cons (.set 2 (.call "_law_atoms" (.cons (.var 0) .nil)))
  (.cons (.set 3 (.call "_law_atoms" (.cons (.var 1) .nil)))
  (.cons (.set 4 (.bi .all (.cons (.lc 5 (.seq (.var 2)) .nil (.cmp .isin (.var 5) (.var 3))) .nil)))
  (.cons (.set 6 (.bi .all (.cons (.lc 5 (.seq (.var 3)) .nil (.cmp .isin (.var 5) (.var 2))) .nil)))
  (.cons (.set 7 (.lc 5 (.seq (.var 2)) (.cons (.cmp .isin (.var 5) (.var 3)) .nil) (.var 5)))
  (.cons (.set 8 (.lc 5 (.rng1 (.cst (.int 6))) (.cons (.cmp .notin (.var 5) (.bin .add (.var 2) (.var 3))) .nil) (.var 5)))
  (.cons (.iff (.not (.call "_law_same" (.cons (.call "under" (.cons (.var 0) (.cons (.var 1) .nil))) (.cons (.var 4) .nil)))) (.cons (.ret (.cst (.bl false)))
  .nil) .nil)
  (.cons (.iff (.not (.call "_law_same" (.cons (.call "at_odds" (.cons (.var 0) (.cons (.var 1) .nil))) (.cons (.and (.not (.var 4)) (.and (.not (.var 6)) (.cmp .gt (.bi .len (.cons (.var 8) .nil)) (.cst (.int 0))))) .nil)))) (.cons (.ret (.cst (.bl false)))
  .nil) .nil)
  (.cons (.set 9 (.call "meet" (.cons (.var 0) (.cons (.var 1) .nil))))
  (.cons (.iff (.cmp .isN (.var 9) (.cst .non)) (.cons (.iff (.cmp .gt (.bi .len (.cons (.var 7) .nil)) (.cst (.int 0))) (.cons (.ret (.cst (.bl false)))
  .nil) .nil)
  .nil) (.cons (.iff (.or (.cmp .notin (.var 9) (.call "_law_kinds" .nil)) (.cmp .ne (.call "_law_atoms" (.cons (.var 9) .nil)) (.var 7))) (.cons (.ret (.cst (.bl false)))
  .nil) .nil)
  .nil))
  (.cons (.set 10 (.call "join" (.cons (.var 0) (.cons (.var 1) .nil))))
  (.cons (.iff (.cmp .notin (.var 10) (.call "_law_kinds" .nil)) (.cons (.ret (.cst (.bl false)))
  .nil) .nil)
  (.cons (.ret (.call "_law_bounds_told" (.cons (.var 0) (.cons (.var 1) (.cons (.var 9) (.cons (.var 10) .nil))))))
  .nil)))))))))))))⟩
abbrev H_law_same : IF := Cm.H_law_same
abbrev H_law_is_int : IF := Cm.H_law_is_int
def I_law : IF := ⟨12, (.cons (.set 2 (.call "_law_kinds" .nil))
  (.cons (.set 3 (.call "_law_draw" (.pool 1 (.cons (.cst (.int 7)) .nil))))
  (.cons (.set 4 (.call "_law_draw" (.pool 1 (.cons (.cst (.int 7)) .nil))))
  (.cons (.forr (.one 5) (.rng1 (.cst (.int 7))) (.cons (.forr (.one 6) (.rng1 (.cst (.int 7))) (.cons (.iff (.not (.call "_law_pair_told" (.cons (.ix (.var 2) (.bin .mod (.bi .int (.cons (.bin .add (.var 5) (.var 3)) .nil)) (.cst (.int 7)))) (.cons (.ix (.var 2) (.bin .mod (.bi .int (.cons (.bin .add (.var 6) (.var 4)) .nil)) (.cst (.int 7)))) .nil)))) (.cons (.ret (.cst (.bl false)))
  .nil) .nil)
  .nil))
  .nil))
  (.cons (.set 7 (.ix (.var 2) (.call "_law_draw" (.pool 1 (.cons (.cst (.int 7)) .nil)))))
  (.cons (.set 8 (.lst (.cons (.call "_law_near_kind" (.pool 1 .nil)) (.cons (.call "_law_near_kind" (.pool 1 .nil)) (.cons (.cst (.str "")) (.cons (.cst (.str "lent")) (.cons (.cst (.str "Any")) .nil)))))))
  (.cons (.set 9 (.lc 10 (.seq (.var 8)) (.cons (.cmp .notin (.var 10) (.var 2)) .nil) (.var 10)))
  (.cons (.forr (.one 11) (.rng1 (.cst (.int 4))) (.cons (.forr (.one 10) (.seq (.var 9)) (.cons (.iff (.or (.not (.call "_law_refused" (.cons (.var 11) (.cons (.var 10) (.cons (.var 7) (.cons (.var 10) .nil)))))) (.not (.call "_law_refused" (.cons (.var 11) (.cons (.var 7) (.cons (.var 10) (.cons (.var 10) .nil))))))) (.cons (.ret (.cst (.bl false)))
  .nil) .nil)
  (.cons (.iff (.or (.not (.call "_law_refused" (.cons (.var 11) (.cons (.var 10) (.cons (.cst (.str "kind")) (.cons (.var 10) .nil)))))) (.not (.call "_law_refused" (.cons (.var 11) (.cons (.cst (.str "kind")) (.cons (.var 10) (.cons (.cst (.str "kind")) .nil))))))) (.cons (.ret (.cst (.bl false)))
  .nil) .nil)
  (.cons (.iff (.not (.call "_law_refused_base" (.cons (.var 11) (.cons (.var 7) (.cons (.var 10) .nil))))) (.cons (.ret (.cst (.bl false)))
  .nil) .nil)
  .nil))))
  .nil))
  (.cons (.ret (.and (.call "_law_pair_told" (.cons (.var 7) (.cons (.ix (.var 2) (.var 4)) .nil))) (.call "_law_pair_told" (.cons (.ix (.var 2) (.var 4)) (.cons (.var 7) .nil)))))
  .nil)))))))))⟩
end K02

set_option Elab.async false
set_option linter.all false
set_option maxRecDepth 100000
set_option maxHeartbeats 4000000
namespace K02
open PySem Ip Cm
open L2 (cutS)
/-! Kinds, atoms: the tables; the defs over values. -/
/-! ### the tables -/
def KS : List Str := ["any", "num", "nat", "small", "digit", "bit", "word"]
def asOf (s : Str) : List D := match t_law_atoms.lookup s with
  | some (.list as) => as
  | _ => []
theorem keys_all : KS.all (fun s => match t_ATOMS.lookup s, t_law_atoms.lookup s with
    | some (.tuple a), some (.list b) => sameDs a b && (a.all flatD && decide (a.length ≤ 6))
    | _, _ => false) = true := by decide +kernel
theorem key_in {s : Str} (h : s ∈ KS) : t_ATOMS.lookup s = some (.tuple (asOf s)) ∧ t_law_atoms.lookup s = some (.list (asOf s)) ∧ (asOf s).all flatD = true ∧ (asOf s).length ≤ 6 := by
  have z := List.all_eq_true.mp keys_all s h
  have z : (match t_ATOMS.lookup s, t_law_atoms.lookup s with
    | some (.tuple a), some (.list b) => sameDs a b && (a.all flatD && decide (a.length ≤ 6))
    | _, _ => false) = true := z
  unfold asOf
  split at z
  · rename_i a b e1 e2
    rw [Bool.and_eq_true, Bool.and_eq_true] at z
    have e := sameDs_eq _ _ z.1
    subst e
    rw [e1, e2]
    exact ⟨rfl, rfl, z.2.1, of_decide_eq_true z.2.2⟩
  · cases z
theorem look_keys {t : List (Str × PyData)} {s : Str} (h : s ∉ t.map (·.1)) : t.lookup s = none := by
  rw [List.lookup_eq_none_iff]
  intro q hq
  have : q.1 ≠ s := fun e => h (by rw [← e]; exact List.mem_map.mpr ⟨q, hq, rfl⟩)
  simpa using fun e => this e.symm
theorem key_out {s : Str} (h : s ∉ KS) : t_ATOMS.lookup s = none := look_keys h
theorem mem_kinds (s : Str) : memD (.str s) kindsD = decide (s ∈ KS) := by
  simp [memD, kindsD, KS, eq_comm]
/-! ### the program's kinds -/
def AtomsOk (cl : Cl) : Prop := ∀ s st, s ∈ KS → cl "atoms_of" [some (.str s)] st = some (.tuple (asOf s), st)
def LatomsOk (cl : Cl) : Prop := ∀ s st, s ∈ KS → cl "_law_atoms" [some (.str s)] st = some (.list (asOf s), st)
def AtomsX (cl : Cl) : Prop := ∀ (s : Str) st, s ∉ KS → s.length ≤ 1000 → cl (bang "atoms_of") [some (.str s)] st = some (erD ("BadKind", .str s), st)
theorem atoms_run (cl : Cl) (s : Str) (st : Pl) (h : s ∈ KS) : runI 1 cl I_atoms_of [some (.str s)] st = some (.tuple (asOf s), st) := by
  simp [runI, runF, I_atoms_of, slOf, (key_in h).1]
theorem latoms_run (cl : Cl) (s : Str) (st : Pl) (h : s ∈ KS) : runI 1 cl I_law_atoms [some (.str s)] st = some (.list (asOf s), st) := by
  simp [runI, runF, I_law_atoms, slOf, (key_in h).2.1]
theorem atoms_x (cl : Cl) (s : Str) (st : Pl) (h : s ∉ KS) (hl : s.length ≤ 1000) : runX 1 cl I_atoms_of [some (.str s)] st = some (erD ("BadKind", .str s), st) := by
  simp [runX, I_atoms_of, slOf, key_out h, errOk, hl]
theorem sq_nx {cl : Cl} {s : IS} {r : ISs} {env e1 : List Sl} {st st1 : Pl} {o : Option Out} (h : evS cl s env st = some (.nx e1 st1)) (h2 : evSs cl r e1 st1 = o) : evSs cl (.cons s r) env st = o := by
  rw [q_evSs_cons, h]
  exact h2
theorem sq_rt {cl : Cl} {s : IS} {r : ISs} {env : List Sl} {st st1 : Pl} {d : D} (h : evS cl s env st = some (.rt d st1)) : evSs cl (.cons s r) env st = some (.rt d st1) := by
  rw [q_evSs_cons, h]
theorem sq_ift {cl : Cl} {c : IE} {a b r : ISs} {env : List Sl} {st st1 st2 : Pl} {d : D} (h : ev cl c env st = some (.bool true, st1)) (h2 : evSs cl a env st1 = some (.rt d st2)) : evSs cl (.cons (.iff c a b) r) env st = some (.rt d st2) := by
  refine sq_rt ?_
  rw [q_evS_iff, h]
  exact h2
theorem sq_iff {cl : Cl} {c : IE} {a r : ISs} {env : List Sl} {st st1 : Pl} {o : Option Out} (h : ev cl c env st = some (.bool false, st1)) (h2 : evSs cl r env st1 = o) : evSs cl (.cons (.iff c a .nil) r) env st = o := by
  refine sq_nx (e1 := env) (st1 := st1) ?_ h2
  rw [q_evS_iff, h]
  rfl
theorem set_run {cl : Cl} {X : IE} {env : List Sl} {st st1 : Pl} {i : Nat} {d : D} (e : ev cl X env st = some (d, st1)) : evS cl (.set i X) env st = some (.nx (env.set i (.im d)) st1) := by
  rw [q_evS_set, e]
theorem ret_run {cl : Cl} {X : IE} {env : List Sl} {st st1 : Pl} {d : D} (e : ev cl X env st = some (d, st1)) : evS cl (.ret X) env st = some (.rt d st1) := by
  rw [q_evS_ret, e]
theorem run_of {n : Nat} {cl : Cl} {I : IF} {as : List (Option D)} {st st' : Pl} {d : D} {env : List Sl} (hl : as.length = n) (he : as.map slOf ++ List.replicate (I.n - as.length) .no = env) (h : evSs cl I.body env st = some (.rt d st')) : runI n cl I as st = some (d, st') := by
  unfold runI runF
  rw [if_pos hl, he, h]
theorem kinds_ks : kindsD = KS.map PyData.str := rfl
theorem not_in {s : Str} (h : s ∈ KS) : inD (.str s) (.list kindsD) = some true := by
  show (if flatD (.str s) = true ∧ kindsD.all flatD = true then some (memD (.str s) kindsD) else none) = _
  rw [if_pos ⟨rfl, rfl⟩, mem_kinds, decide_eq_true h]
theorem not_out {s : Str} (h : s ∉ KS) : inD (.str s) (.list kindsD) = some false := by
  show (if flatD (.str s) = true ∧ kindsD.all flatD = true then some (memD (.str s) kindsD) else none) = _
  rw [if_pos ⟨rfl, rfl⟩, mem_kinds, decide_eq_false h]
def NearOk (cl : Cl) : Prop := ∀ {C : List (List D)} (st : Pl), Pok C st → ∃ (w : Str) (st' : Pl), cl "_law_near_kind" [none] st = some (.str w, st') ∧ w.length ≤ 1000 ∧ Pok C st'
/-! ### a text near a kind -/
def sg1 : Str := " !\"#$&'()*+,-./0123456789:;<=>?@ABCDEFGHIJKLMNOPQRSTUVWXYZ[\\]^_`"
def sg2 : Str := "abcdefghijklmnopqrstuvwxyz{|}~"
def sgs : Str := sg1 ++ sg2
def SignsOk (cl : Cl) : Prop := ∀ st, cl "_law_signs" [] st = some (.str sgs, st)
theorem sg_len : sgs.length = 94 := by decide +kernel
theorem signs_run (cl : Cl) (st : Pl) : runI 0 cl I_law_signs [] st = some (.str sgs, st) := by
  have m : sg1.length + sg2.length ≤ most := by decide +kernel
  have b : binD .add (.str sg1) (.str sg2) = some (.str sgs) := by
    show (if sg1.length + sg2.length ≤ most then some (PyData.str (sg1 ++ sg2)) else none) = _
    rw [if_pos m]
    rfl
  refine run_of rfl (env := [.no]) rfl (sq_nx (set_run (d := .str sg1) (st1 := st) (by simp [Cst.d] <;> rfl)) (sq_rt (ret_run ?_)))
  show ev cl (.bin .add (.var 0) (.cst (.str "abcdefghijklmnopqrstuvwxyz{|}~"))) [.im (.str sg1)] st = _
  have e : (Cst.str "abcdefghijklmnopqrstuvwxyz{|}~").d = .str sg2 := rfl
  simp [e, b]
theorem cut_le (s : Str) (lo hi : Option Int) : (cutS s lo hi).length ≤ s.length := by
  show (List.toArray _).size ≤ s.cps.size
  simp only [List.size_toArray, List.length_take, List.length_drop, Array.length_toList]
  omega
theorem ks_len : KS.all (fun s => decide (1 ≤ s.length) && (decide (s.length ≤ 5) && s.cps.toList.all (· < 128))) = true := by decide +kernel
theorem ks_at {s : Str} (h : s ∈ KS) : 1 ≤ s.length ∧ s.length ≤ 5 ∧ s.cps.toList.all (· < 128) = true := by
  have z := List.all_eq_true.mp ks_len s h
  rw [Bool.and_eq_true, Bool.and_eq_true] at z
  exact ⟨of_decide_eq_true z.1, of_decide_eq_true z.2.1, z.2.2⟩
theorem up_len {c : Nat} (h : c < 128) : (Txt.upper ⟨#[c]⟩).length = 1 := by
  have z := SX.upper_S (a := [c]) (by simpa using h)
  have e : (⟨#[c]⟩ : Str) = SX.S [c] := rfl
  rw [e, z]
  rfl
theorem add_ok {a b : Str} (n : Nat) (h : a.length + b.length ≤ n) (hn : n ≤ 1000) : binD .add (.str a) (.str b) = some (.str (a ++ b)) ∧ (a ++ b).length ≤ n := by
  refine ⟨by
    show (if a.length + b.length ≤ most then some (PyData.str (a ++ b)) else none) = _
    rw [if_pos (Nat.le_trans h (Nat.le_trans hn (by decide)))], ?_⟩
  rw [str_len_add]
  exact h
/-- a sign of a text -/
theorem sign_at {s : Str} {r : Int} (h0 : 0 ≤ r) (h1 : r < s.length) (hm : s.length ≤ most) : ∃ c, ixD (.str s) (.int r) = some (.str ⟨#[c]⟩) ∧ c ∈ s.cps.toList := by
  have hl : (s.cps.toList.length : Int) = s.length := by
    rw [Array.length_toList]
    rfl
  have hb : r.toNat < s.cps.toList.length := by omega
  have e : L2.atI s.cps.toList r = some (s.cps.toList[r.toNat]'hb) := atI_of (xs := s.cps.toList) h0 (by rw [hl]; exact h1)
  refine ⟨s.cps.toList[r.toNat]'hb, ?_, List.getElem_mem hb⟩
  show (if s.length ≤ most then (L2.atI s.cps.toList r).map fun c => PyData.str ⟨#[c]⟩ else none) = _
  rw [if_pos hm, e]
  rfl
theorem sl_ok {s : Str} (lo hi : Option Int) (h : s.length ≤ 1000) : slD (.str s) lo hi = some (.str (cutS s lo hi)) := by
  show (if s.length ≤ most then some (PyData.str (cutS s lo hi)) else none) = _
  rw [if_pos (Nat.le_trans h (by decide))]
theorem near_run {cl : Cl} (hd : DrawOk cl) (hk : KindsOk cl) (hw : WordOk cl) (hg : SignsOk cl) (st : Pl) {C : List (List D)} (h : Pok C st) : ∃ (w : Str) (st' : Pl), runI 1 cl I_law_near_kind [none] st = some (.str w, st') ∧ w.length ≤ 1000 ∧ Pok C st' := by
  obtain ⟨r, st1, e1, r0, r1, h1⟩ := hd 7 st h (by decide) (by decide)
  have hat := atI_of (xs := kindsD) r0 (by simpa [kindsD] using r1)
  generalize hx : kindsD[r.toNat]'_ = x at hat
  have hm : x ∈ kindsD := by rw [← hx]; exact List.getElem_mem _
  rw [kinds_ks] at hm
  obtain ⟨k, hks, rfl⟩ := List.mem_map.mp hm
  obtain ⟨l1, l5, asc⟩ := ks_at hks
  have hix : ixD (.list kindsD) (.int r) = some (.str k) := hat
  obtain ⟨way, st2, e2, w0, w1, h2⟩ := hd 5 st1 h1 (by decide) (by decide)
  have mk : k.length ≤ most := Nat.le_trans l5 (by decide)
  have hlen : biD .len [.str k] = some (.int k.length) := by
    show (if k.length ≤ most then some (PyData.int k.length) else none) = _
    rw [if_pos mk]
  obtain ⟨at_, st3, e3, a0, a1, h3⟩ := hd k.length st2 h2 (by omega) (by omega)
  have start : ∀ {d st'}, evSs cl I_law_near_kind.body [.pl, .no, .no, .no, .no, .no, .no, .no] st = some (.rt d st') → runI 1 cl I_law_near_kind [none] st = some (d, st') := fun h => run_of rfl rfl h
  let abc : Str := "abcdefghijklmnopqrstuvwxyz"
  let env : List Sl := [.pl, .im (.str k), .im (.int way), .im (.int at_), .im (.str sgs), .im (.str abc), .no, .no]
  have pre : ∀ {o}, evSs cl (match I_law_near_kind.body with | .cons _ (.cons _ (.cons _ (.cons _ (.cons _ r)))) => r | r => r) env st3 = some o → evSs cl I_law_near_kind.body [.pl, .no, .no, .no, .no, .no, .no, .no] st = some o := fun {o} ho =>
    sq_nx (e1 := [.pl, .im (.str k), .no, .no, .no, .no, .no, .no]) (st1 := st1) (set_run (by simp [Cst.d, hk st, e1, hix]))
      (sq_nx (e1 := [.pl, .im (.str k), .im (.int way), .no, .no, .no, .no, .no]) (st1 := st2) (set_run (by simp [Cst.d, e2]))
      (sq_nx (e1 := [.pl, .im (.str k), .im (.int way), .im (.int at_), .no, .no, .no, .no]) (st1 := st3) (set_run (by simp [hlen, e3]))
      (sq_nx (e1 := [.pl, .im (.str k), .im (.int way), .im (.int at_), .im (.str sgs), .no, .no, .no]) (st1 := st3) (set_run (by simp [hg st3]))
      (sq_nx (e1 := env) (st1 := st3) (set_run (by simp [Cst.d] <;> rfl)) ho))))
  have lA := cut_le k none (some at_)
  have lB := cut_le k (some (at_ + 1)) none
  have lB2 := cut_le k (some at_) none
  have sA := sl_ok (s := k) none (some at_) (by omega)
  have sB := sl_ok (s := k) (some (at_ + 1)) none (by omega)
  have sB2 := sl_ok (s := k) (some at_) none (by omega)
  have add1 : binD .add (.int at_) (.int 1) = some (.int (at_ + 1)) := rfl
  have v1 : env[1]? = some (.im (.str k)) := rfl
  have v2 : env[2]? = some (.im (.int way)) := rfl
  have v3 : env[3]? = some (.im (.int at_)) := rfl
  have v4 : env[4]? = some (.im (.str sgs)) := rfl
  have v5 : env[5]? = some (.im (.str abc)) := rfl
  have v0 : env[0]? = some .pl := rfl
  have slen : biD .len [.str sgs] = some (.int 94) := by
    show (if sgs.length ≤ most then some (PyData.int sgs.length) else none) = _
    rw [sg_len, if_pos (by decide)]
    rfl
  by_cases c0 : way = 0
  · obtain ⟨b1, b2⟩ := add_ok 10 (a := cutS k none (some at_)) (b := cutS k (some (at_ + 1)) none) (by omega) (by decide)
    exact ⟨_, st3, start (pre (sq_ift (st1 := st3) (by simp [v2, cmpD, eqD, Cst.d, c0]) (sq_rt (ret_run (by simp [v1, v3, Cst.d, add1, sA, sB, b1] <;> rfl))))), Nat.le_trans b2 (by decide), h3⟩
  · have n0 : ev cl (.cmp .eq (.var 2) (.cst (.int 0))) env st3 = some (.bool false, st3) := by simp [v2, cmpD, eqD, Cst.d, c0]
    by_cases c1 : way = 1
    · obtain ⟨c, ec, hc⟩ := sign_at a0 a1 mk
      have c128 : c < 128 := by simpa using List.all_eq_true.mp asc c hc
      have up : m0D .upper (.str ⟨#[c]⟩) = some (.str (Txt.upper ⟨#[c]⟩)) := by
        show (if (1 : Nat) ≤ most then some (PyData.str (Txt.upper ⟨#[c]⟩)) else none) = _
        rw [if_pos (by decide)]
      obtain ⟨b1, b2⟩ := add_ok 10 (a := cutS k none (some at_)) (b := Txt.upper ⟨#[c]⟩) (by rw [up_len c128]; omega) (by decide)
      obtain ⟨b3, b4⟩ := add_ok 20 (a := cutS k none (some at_) ++ Txt.upper ⟨#[c]⟩) (b := cutS k (some (at_ + 1)) none) (by omega) (by decide)
      exact ⟨_, st3, start (pre (sq_iff (st1 := st3) n0 (sq_ift (st1 := st3) (by simp [v2, cmpD, eqD, Cst.d, c1]) (sq_rt (ret_run (by simp [v1, v3, Cst.d, add1, sA, sB, ec, up, b1, b3] <;> rfl)))))), Nat.le_trans b4 (by decide), h3⟩
    · have n1 : ev cl (.cmp .eq (.var 2) (.cst (.int 1))) env st3 = some (.bool false, st3) := by simp [v2, cmpD, eqD, Cst.d, c1]
      by_cases c2 : way = 2
      · obtain ⟨q, st4, e4, q0, q1, h4⟩ := hd 94 st3 h3 (by decide) (by decide)
        obtain ⟨c, ec, hc⟩ := sign_at q0 (by rw [sg_len]; exact q1) (by rw [sg_len]; decide)
        obtain ⟨b1, b2⟩ := add_ok 10 (a := cutS k none (some at_)) (b := ⟨#[c]⟩) (by show _ + 1 ≤ 10; omega) (by decide)
        obtain ⟨b3, b4⟩ := add_ok 20 (a := cutS k none (some at_) ++ ⟨#[c]⟩) (b := cutS k (some at_) none) (by omega) (by decide)
        exact ⟨_, st4, start (pre (sq_iff (st1 := st3) n0 (sq_iff (st1 := st3) n1 (sq_ift (st1 := st3) (by simp [v2, cmpD, eqD, Cst.d, c2]) (sq_rt (ret_run (by simp [v0, v1, v3, v4, Cst.d, sA, sB2, slen, e4, ec, b1, b3] <;> rfl))))))), Nat.le_trans b4 (by decide), h4⟩
      · have n2 : ev cl (.cmp .eq (.var 2) (.cst (.int 2))) env st3 = some (.bool false, st3) := by simp [v2, cmpD, eqD, Cst.d, c2]
        by_cases c3 : way = 3
        · obtain ⟨q, st4, e4, q0, q1, h4⟩ := hd 6 st3 h3 (by decide) (by decide)
          obtain ⟨w, st5, e5, hw5, h5⟩ := hw abc abc q st4 h4 (by rw [show abc.length = 26 from l26]; decide) (by rw [show abc.length = 26 from l26]; decide) (by rw [show abc.length = 26 from l26]; decide) (by rw [show abc.length = 26 from l26]; decide) q0 (by omega)
          exact ⟨w, st5, start (pre (sq_iff (st1 := st3) n0 (sq_iff (st1 := st3) n1 (sq_iff (st1 := st3) n2 (sq_ift (st1 := st3) (by simp [v2, cmpD, eqD, Cst.d, c3]) (sq_rt (ret_run (by simp [v0, v5, Cst.d, e4, e5])))))))), by rw [hw5.len]; omega, h5⟩
        · have n3 : ev cl (.cmp .eq (.var 2) (.cst (.int 3))) env st3 = some (.bool false, st3) := by simp [v2, cmpD, eqD, Cst.d, c3]
          obtain ⟨q, st4, e4, q0, q1, h4⟩ := hd 9 st3 h3 (by decide) (by decide)
          have hrg : rngD 0 q = some ((List.range q.toNat).map fun (k : Nat) => PyData.int (k : Int)) := rngD_nat q0 (by omega)
          let envF : Str → Sl → List Sl := fun w x => [.pl, .im (.str k), .im (.int way), .im (.int at_), .im (.str sgs), .im (.str abc), .im (.str w), x]
          obtain ⟨env', st5, e5, w, x, e6, hl6, h5⟩ := forG_nx (f := fb cl (.one 7) (.cons (.set 6 (.bin .add (.var 6) (.ix (.var 4) (.call "_law_draw" (.pool 0 (.cons (.bi .len (.cons (.var 4) .nil)) .nil)))))) .nil))
            (fun i env s => ∃ (w : Str) (x : Sl), env = envF w x ∧ w.length ≤ i ∧ Pok C s) ((List.range q.toNat).map fun (k : Nat) => PyData.int (k : Int)) (envF (Str.ofString "") .no) st4 ⟨_, _, rfl, by decide +kernel, h4⟩
            (fun i y env s hy ⟨w, x, e, hl, hs⟩ => by
              subst e
              obtain ⟨z, s2, ez, z0, z1, hs2⟩ := hd 94 s hs (by decide) (by decide)
              obtain ⟨c, ec, hc⟩ := sign_at z0 (by rw [sg_len]; exact z1) (by rw [sg_len]; decide)
              obtain ⟨hi, rfl⟩ := rng_at hy
              obtain ⟨b1, b2⟩ := add_ok (i + 1) (a := w) (b := ⟨#[c]⟩) (by show _ + 1 ≤ _; omega) (by omega)
              exact ⟨envF (w ++ ⟨#[c]⟩) (.im (.int i)), s2, by simp [fb_eq, sgD, envF, slen, ez, ec, b1], ⟨_, _, rfl, b2, hs2⟩⟩)
          subst e6
          refine ⟨w, st5, start (pre (sq_iff (st1 := st3) n0 (sq_iff (st1 := st3) n1 (sq_iff (st1 := st3) n2 (sq_iff (st1 := st3) n3 (sq_nx (e1 := envF (Str.ofString "") .no) (st1 := st3) (set_run (by simp [Cst.d] <;> rfl)) (sq_nx (e1 := envF w x) (st1 := st5) ?_ (sq_rt (ret_run (by simp [envF])))))))))), ?_, h5⟩
          · have v0' : (envF (Str.ofString "") .no)[0]? = some .pl := rfl
            simp [v0', Cst.d, e4, hrg, e5]
          · rw [List.length_map, List.length_range] at hl6
            omega
end K02

set_option Elab.async false
set_option linter.all false
set_option maxRecDepth 100000
set_option maxHeartbeats 4000000
namespace K02
open PySem Ip Cm
/-! Two kinds: one under another, the meet, the join, at odds. -/
abbrev mb (ys : List D) (d : D) : Bool := memD d ys
theorem in_seq {d : D} {ys : List D} (h1 : flatD d = true) (h2 : ys.all flatD = true) : inD d (.tuple ys) = some (mb ys d) ∧ inD d (.list ys) = some (mb ys d) := by
  constructor
  · show (if flatD d = true ∧ ys.all flatD = true then some (memD d ys) else none) = _
    rw [if_pos ⟨h1, h2⟩]
  · show (if flatD d = true ∧ ys.all flatD = true then some (memD d ys) else none) = _
    rw [if_pos ⟨h1, h2⟩]
theorem bools_map (f : D → Bool) : ∀ l : List D, boolsD (l.map fun d => PyData.bool (f d)) = some (l.map f)
  | [] => rfl
  | d :: r => by
    rw [List.map_cons, List.map_cons]
    show (boolsD (r.map fun d => PyData.bool (f d))).map (fun bs => f d :: bs) = _
    rw [bools_map f r]
    rfl
theorem lc_map {f : D → Pl → Option (Option D × Pl)} {g : D → D} {st : Pl} : ∀ {xs : List D}, (∀ d ∈ xs, f d st = some (some (g d), st)) → lcG f xs st = some (xs.map g, st)
  | [], _ => rfl
  | d :: r, h => by
    unfold lcG
    rw [h d List.mem_cons_self]
    simp only
    rw [lc_map fun x hx => h x (List.mem_cons_of_mem _ hx)]
    rfl
theorem lc_flt {f : D → Pl → Option (Option D × Pl)} {p : D → Bool} {st : Pl} : ∀ {xs : List D}, (∀ d ∈ xs, f d st = some (if p d = true then some d else none, st)) → lcG f xs st = some (xs.filter p, st)
  | [], _ => rfl
  | d :: r, h => by
    have e1 := h d List.mem_cons_self
    have e2 := lc_flt (p := p) (st := st) fun x hx => h x (List.mem_cons_of_mem _ hx)
    unfold lcG
    cases e : p d with
    | false =>
      rw [e] at e1
      rw [e1]
      simp only [Bool.false_eq_true, if_false]
      rw [e2]
      simp [e]
    | true =>
      rw [e] at e1
      rw [e1]
      simp only [if_true]
      rw [e2]
      simp [e]
section
variable {cl : Cl} {it : IT} {env : List Sl} {st : Pl} {xs : List D} {e c : IE} {j : Nat} {p : D → Bool}
theorem map_ev (hit : ei cl it env st = some (xs, st)) (hl : xs.length ≤ most) (hb : ∀ d ∈ xs, ev cl e (env.set j (.im d)) st = some (.bool (p d), st)) : ev cl (.lc j it .nil e) env st = some (.list (xs.map fun d => .bool (p d)), st) := by
  rw [q_ev_lc, hit]
  simp only
  rw [if_pos hl]
  have z : lcG (lb cl j .nil e env) xs st = some (xs.map (fun d => PyData.bool (p d)), st) := lc_map fun d hd => by
    rw [lb_eq]
    simp [hb d hd]
  have z2 := z
  simp only [z2]
theorem all_ev (hit : ei cl it env st = some (xs, st)) (hl : xs.length ≤ most) (hb : ∀ d ∈ xs, ev cl e (env.set j (.im d)) st = some (.bool (p d), st)) : ev cl (.bi .all (.cons (.lc j it .nil e) .nil)) env st = some (.bool (xs.all p), st) := by
  have z := map_ev hit hl hb
  simp [z, biD, bools_map, List.all_map, Function.comp_def]
theorem any_ev (hit : ei cl it env st = some (xs, st)) (hl : xs.length ≤ most) (hb : ∀ d ∈ xs, ev cl e (env.set j (.im d)) st = some (.bool (p d), st)) : ev cl (.bi .any (.cons (.lc j it .nil e) .nil)) env st = some (.bool (xs.any p), st) := by
  have z := map_ev hit hl hb
  simp [z, biD, bools_map, List.any_map, Function.comp_def]
theorem flt_ev (hit : ei cl it env st = some (xs, st)) (hl : xs.length ≤ most) (hj : j < env.length) (hb : ∀ d ∈ xs, ev cl c (env.set j (.im d)) st = some (.bool (p d), st)) : ev cl (.lc j it (.cons c .nil) (.var j)) env st = some (.list (xs.filter p), st) := by
  rw [q_ev_lc, hit]
  simp only
  rw [if_pos hl]
  have z : lcG (lb cl j (.cons c .nil) (.var j) env) xs st = some (xs.filter p, st) := lc_flt fun d hd => by
    rw [lb_eq]
    cases e : p d <;> simp [hb d hd, e, hj]
  have z2 := z
  simp only [z2]
end
theorem FL {s : Str} (h : s ∈ KS) : ∀ d ∈ asOf s, flatD d = true := fun d hd => List.all_eq_true.mp (key_in h).2.2.1 d hd
theorem LE {s : Str} (h : s ∈ KS) : (asOf s).length ≤ most := Nat.le_trans (key_in h).2.2.2 (by decide)
def uB (k o : Str) : Bool := (asOf k).all (mb (asOf o))
def UndOk (cl : Cl) : Prop := ∀ k o st, k ∈ KS → o ∈ KS → cl "under" [some (.str k), some (.str o)] st = some (.bool (uB k o), st)
def LundOk (cl : Cl) : Prop := ∀ k o st, k ∈ KS → o ∈ KS → cl "_law_under" [some (.str k), some (.str o)] st = some (.bool (uB k o), st)
theorem und_run {cl : Cl} (ha : AtomsOk cl) (k o : Str) (st : Pl) (hk : k ∈ KS) (ho : o ∈ KS) : runI 2 cl I_under [some (.str k), some (.str o)] st = some (.bool (uB k o), st) := by
  refine run_of (env := [.im (.str k), .im (.str o), .no, .no, .no]) rfl rfl (sq_nx (e1 := [.im (.str k), .im (.str o), .im (.tuple (asOf k)), .no, .no]) (st1 := st) (set_run (by simp [ha k st hk])) (sq_nx (e1 := [.im (.str k), .im (.str o), .im (.tuple (asOf k)), .im (.tuple (asOf o)), .no]) (st1 := st) (set_run (by simp [ha o st ho])) (sq_rt ?_)))
  have z := all_ev (cl := cl) (it := .seq (.var 2)) (e := .cmp .isin (.var 4) (.var 3)) (j := 4) (p := mb (asOf o)) (env := [.im (.str k), .im (.str o), .im (.tuple (asOf k)), .im (.tuple (asOf o)), .no]) (st := st) (xs := asOf k) (by simp [itS]) (LE hk) fun d hd => by
    simp [cmpD, (in_seq (FL hk d hd) (key_in ho).2.2.1).1]
  simp only [q_evS_calm]
  exact ret_run z
theorem lund_run {cl : Cl} (ha : LatomsOk cl) (k o : Str) (st : Pl) (hk : k ∈ KS) (ho : o ∈ KS) : runI 2 cl I_law_under [some (.str k), some (.str o)] st = some (.bool (uB k o), st) := by
  refine run_of (env := [.im (.str k), .im (.str o), .no, .no]) rfl rfl (sq_nx (e1 := [.im (.str k), .im (.str o), .im (.list (asOf o)), .no]) (st1 := st) (set_run (by simp [ha o st ho])) (sq_rt ?_))
  have z := all_ev (cl := cl) (it := .seq (.call "_law_atoms" (.cons (.var 0) .nil))) (e := .cmp .isin (.var 3) (.var 2)) (j := 3) (p := mb (asOf o)) (env := [.im (.str k), .im (.str o), .im (.list (asOf o)), .no]) (st := st) (xs := asOf k) (by simp [itS, ha k st hk]) (LE hk) fun d hd => by
    simp [cmpD, (in_seq (FL hk d hd) (key_in ho).2.2.1).2]
  exact ret_run z
/-! ### the least that holds all -/
def lenS (s : Str) : Int := (asOf s).length
def holds (as : List D) (s : Str) : Bool := as.all (mb (asOf s))
def leastT (as : List D) : Option D := minK ((KS.filter (holds as)).map PyData.str) ((KS.filter (holds as)).map lenS)
theorem found_keys {f : D → Option (D × Pl)} {st : Pl} (hf : ∀ s, s ∈ KS → f (.str s) = some (.int (lenS s), st)) : ∀ l : List Str, (∀ s ∈ l, s ∈ KS) → keysK f st (l.map PyData.str) = some (l.map lenS)
  | [], _ => rfl
  | s :: r, h => by
    rw [List.map_cons]
    unfold keysK
    rw [hf s (h s List.mem_cons_self)]
    simp only [Pl.same_refl, if_true]
    rw [found_keys hf r fun x hx => h x (List.mem_cons_of_mem _ hx)]
    rfl
theorem kinds_map : ([.str "any", .str "num", .str "nat", .str "small", .str "digit", .str "bit", .str "word"] : List D) = KS.map PyData.str := rfl
def LwithOk (cl : Cl) : Prop := ∀ as d st, as.all flatD = true → as.length ≤ 100 → leastT as = some d → cl "_least_with" [some (.tuple as)] st = some (d, st)
theorem flt_str {cl : Cl} {it : IT} {env : List Sl} {st : Pl} {c : IE} {j : Nat} {p : Str → Bool} {l : List Str} (hit : ei cl it env st = some (l.map PyData.str, st)) (hl : l.length ≤ most) (hj : j < env.length) (hb : ∀ s ∈ l, ev cl c (env.set j (.im (.str s))) st = some (.bool (p s), st)) :
    ev cl (.lc j it (.cons c .nil) (.var j)) env st = some (.list ((l.filter p).map PyData.str), st) := by
  rw [flt_ev (p := fun d => match d with
    | .str s => p s
    | _ => false) hit (by rw [List.length_map]; exact hl) hj fun d hd => ?_]
  · rw [List.filter_map]
    rfl
  · obtain ⟨s, hs, rfl⟩ := List.mem_map.mp hd
    exact hb s hs
theorem lwith_run {cl : Cl} (hk : AtomsOk cl) (as : List D) (d : D) (st : Pl) (hf : as.all flatD = true) (hn : as.length ≤ 100) (hm : leastT as = some d) : runI 1 cl I_least_with [some (.tuple as)] st = some (d, st) := by
  have fl : ∀ d ∈ as, flatD d = true := fun d hd => List.all_eq_true.mp hf d hd
  have e2 := flt_str (cl := cl) (it := .seq (.con (.tuple [(.str "any"), (.str "num"), (.str "nat"), (.str "small"), (.str "digit"), (.str "bit"), (.str "word")]))) (c := .bi .all (.cons (.lc 3 (.seq (.var 0)) .nil (.cmp .isin (.var 3) (.call "atoms_of" (.cons (.var 2) .nil)))) .nil)) (j := 2) (p := holds as) (l := KS) (env := [.im (.tuple as), .no, .no, .no]) (st := st) (by
      rw [q_ei_seq]
      simp only [q_ev_con, itS, Option.map_some]
      rfl) (by decide) (by simp) fun s hs => all_ev (it := .seq (.var 0)) (xs := as) (p := mb (asOf s)) (by simp [itS]) (Nat.le_trans hn (by decide)) fun d hd => by
        simp [hk s st hs, cmpD, (in_seq (fl d hd) (key_in hs).2.2.1).1]
  have keys := found_keys (f := fun d => ev cl (.bi .len (.cons (.call "atoms_of" (.cons (.var 0) .nil)) .nil)) [.im d] st) (st := st) (fun s hs => by simp [hk s st hs, biD, lenS]) (KS.filter (holds as)) fun s hs => (List.mem_filter.mp hs).1
  refine run_of (env := [.im (.tuple as), .no, .no, .no]) rfl rfl (sq_nx (e1 := [.im (.tuple as), .im (.list ((KS.filter (holds as)).map PyData.str)), .no, .no]) (st1 := st) (set_run e2) (sq_rt (ret_run ?_)))
  have z : ev cl (.var 1) [.im (.tuple as), .im (.list ((KS.filter (holds as)).map PyData.str)), .no, .no] st = some (.list ((KS.filter (holds as)).map PyData.str), st) := rfl
  rw [q_ev_mink, z]
  simp only
  rw [show keysK (fun d => ev cl (.bi .len (.cons (.call "atoms_of" (.cons (.var 0) .nil)) .nil)) [.im d] st) st ((KS.filter (holds as)).map PyData.str) = _ from keys]
  simp only
  rw [show minK ((KS.filter (holds as)).map PyData.str) ((KS.filter (holds as)).map lenS) = some d from hm]
  rfl
end K02

set_option Elab.async false
set_option linter.all false
set_option maxRecDepth 100000
set_option maxHeartbeats 4000000
namespace K02
open PySem Ip Cm
/-! The meet, the join, at odds; what is told of a pair. -/
def inter (k o : Str) : List D := (asOf k).filter (mb (asOf o))
def sameT (x y : D) : Bool := match eqD x y with
  | some true => true
  | _ => false
def knownT (x y : D) : Bool := (eqD x y).isSome
def meetS (k o : Str) : Option Str := KS.find? fun f => sameT (.tuple (asOf f)) (.tuple (inter k o))
def meetD (k o : Str) : D := match meetS k o with
  | some s => .str s
  | none => .none
def bothT (k o : Str) : List D := asOf k ++ asOf o
def joinS (k o : Str) : Str := match leastT (bothT k o) with
  | some (.str s) => s
  | _ => ""
def oddsB (k o : Str) : Bool := if (uB k o || uB o k) = true then false else (asOf "any").any fun d => !mb (bothT k o) d
def outs (k o : Str) : List D := ((List.range 6).map fun (n : Nat) => PyData.int (n : Int)).filter fun d => !mb (bothT k o) d
def boundB (k o bd : Str) : Bool :=
  let above := (bothT k o).all (mb (asOf bd))
  !(decide (bd = joinS k o) && !above) && (!(above && !uB (joinS k o) bd) && (!(uB bd k && uB bd o) || (match meetS k o with
    | none => false
    | some l => uB bd l)))
def pairB (k o : Str) : Bool :=
  KS.all (fun f => knownT (.tuple (asOf f)) (.tuple (inter k o))) && ((match leastT (bothT k o) with
    | some (.str s) => decide (s ∈ KS)
    | _ => false) && (decide (oddsB k o = (!uB k o && (!uB o k && decide (0 < (outs k o).length)))) && ((match meetS k o with
    | none => decide ((inter k o).length = 0)
    | some l => decide (l ∈ KS) && sameT (.list (asOf l)) (.list (inter k o))) && KS.all (boundB k o))))
theorem pairs_ok : KS.all (fun k => KS.all (pairB k)) = true := by decide +kernel
theorem pair_at {k o : Str} (hk : k ∈ KS) (ho : o ∈ KS) : pairB k o = true := List.all_eq_true.mp (List.all_eq_true.mp pairs_ok k hk) o ho
structure PF (k o : Str) : Prop where
  kn : ∀ f ∈ KS, ∃ b, eqD (.tuple (asOf f)) (.tuple (inter k o)) = some b ∧ sameT (.tuple (asOf f)) (.tuple (inter k o)) = b
  jn : leastT (bothT k o) = some (.str (joinS k o)) ∧ joinS k o ∈ KS
  od : oddsB k o = (!uB k o && (!uB o k && decide (0 < (outs k o).length)))
  mt : (meetS k o = none ∧ (inter k o).length = 0) ∨ ∃ l, meetS k o = some l ∧ l ∈ KS ∧ eqD (.list (asOf l)) (.list (inter k o)) = some true
  bd : ∀ f ∈ KS, boundB k o f = true
theorem pf_at {k o : Str} (hk : k ∈ KS) (ho : o ∈ KS) : PF k o := by
  have z := pair_at hk ho
  unfold pairB at z
  rw [Bool.and_eq_true, Bool.and_eq_true, Bool.and_eq_true, Bool.and_eq_true] at z
  obtain ⟨z1, z2, z3, z4, z5⟩ := z
  refine ⟨fun f hf => ?_, ?_, of_decide_eq_true z3, ?_, fun f hf => List.all_eq_true.mp z5 f hf⟩
  · have y := List.all_eq_true.mp z1 f hf
    obtain ⟨b, e⟩ := Option.isSome_iff_exists.mp y
    refine ⟨b, e, ?_⟩
    unfold sameT
    rw [e]
    cases b <;> rfl
  · split at z2
    · rename_i s e
      have : joinS k o = s := by
        unfold joinS
        rw [e]
      rw [this]
      exact ⟨e, of_decide_eq_true z2⟩
    · cases z2
  · split at z4
    · rename_i e
      exact .inl ⟨e, of_decide_eq_true z4⟩
    · rename_i l e
      rw [Bool.and_eq_true] at z4
      refine .inr ⟨l, e, of_decide_eq_true z4.1, ?_⟩
      have y := z4.2
      unfold sameT at y
      split at y
      · assumption
      · cases y
theorem FI {k o : Str} (hk : k ∈ KS) : ∀ d ∈ inter k o, flatD d = true := fun d hd => FL hk d (List.mem_filter.mp hd).1
theorem FB {k o : Str} (hk : k ∈ KS) (ho : o ∈ KS) : (bothT k o).all flatD = true := List.all_eq_true.mpr fun d hd => (List.mem_append.mp hd).elim (FL hk d) (FL ho d)
theorem LB {k o : Str} (hk : k ∈ KS) (ho : o ∈ KS) : (bothT k o).length ≤ 12 := by
  have h1 := (key_in hk).2.2.2
  have h2 := (key_in ho).2.2.2
  unfold bothT
  rw [List.length_append]
  omega
theorem addT {k o : Str} (hk : k ∈ KS) (ho : o ∈ KS) : binD .add (.tuple (asOf k)) (.tuple (asOf o)) = some (.tuple (bothT k o)) ∧ binD .add (.list (asOf k)) (.list (asOf o)) = some (.list (bothT k o)) := by
  have h1 := (key_in hk).2.2.2
  have h2 := (key_in ho).2.2.2
  have h : (asOf k).length + (asOf o).length ≤ most := Nat.le_trans (by omega : _ ≤ 12) (by decide)
  constructor
  · show (if (asOf k).length + (asOf o).length ≤ most then some (PyData.tuple (asOf k ++ asOf o)) else none) = _
    rw [if_pos h]
    rfl
  · show (if (asOf k).length + (asOf o).length ≤ most then some (PyData.list (asOf k ++ asOf o)) else none) = _
    rw [if_pos h]
    rfl
/-- a loop that returns at the first that is wanted -/
theorem for_find {f : D → List Sl → Pl → Option Out} {p : Str → Bool} {st : Pl} (I : List Sl → Prop) : ∀ (l : List Str) (env : List Sl), I env →
    (∀ s ∈ l, ∀ env, I env → (p s = true → f (.str s) env st = some (.rt (.str s) st)) ∧ (p s = false → ∃ env', f (.str s) env st = some (.nx env' st) ∧ I env')) →
    match l.find? p with
    | some s => forG f (l.map PyData.str) env st = some (.rt (.str s) st)
    | none => ∃ env', forG f (l.map PyData.str) env st = some (.nx env' st) ∧ I env'
  | [], env, h, _ => ⟨env, rfl, h⟩
  | s :: r, env, h, hf => by
    obtain ⟨h1, h2⟩ := hf s List.mem_cons_self env h
    rw [List.find?_cons]
    cases e : p s with
    | true =>
      simp only
      rw [List.map_cons]
      unfold forG
      rw [h1 e]
    | false =>
      obtain ⟨env', e1, e2⟩ := h2 e
      have z := for_find I r env' e2 fun x hx => hf x (List.mem_cons_of_mem _ hx)
      simp only
      rw [List.map_cons]
      cases e3 : r.find? p with
      | some t =>
        rw [e3] at z
        simp only at z ⊢
        unfold forG
        rw [e1]
        exact z
      | none =>
        rw [e3] at z
        simp only at z ⊢
        unfold forG
        rw [e1]
        exact z
def MeetOk (cl : Cl) : Prop := ∀ k o st, k ∈ KS → o ∈ KS → cl "meet" [some (.str k), some (.str o)] st = some (meetD k o, st)
def JoinOk (cl : Cl) : Prop := ∀ k o st, k ∈ KS → o ∈ KS → cl "join" [some (.str k), some (.str o)] st = some (.str (joinS k o), st)
def OddsOk (cl : Cl) : Prop := ∀ k o st, k ∈ KS → o ∈ KS → cl "at_odds" [some (.str k), some (.str o)] st = some (.bool (oddsB k o), st)
theorem meet_run {cl : Cl} (ha : AtomsOk cl) (k o : Str) (st : Pl) (hk : k ∈ KS) (ho : o ∈ KS) : runI 2 cl I_meet [some (.str k), some (.str o)] st = some (meetD k o, st) := by
  have P := pf_at hk ho
  have z := flt_ev (cl := cl) (it := .seq (.var 2)) (c := .cmp .isin (.var 5) (.var 3)) (j := 5) (p := mb (asOf o)) (env := [.im (.str k), .im (.str o), .im (.tuple (asOf k)), .im (.tuple (asOf o)), .no, .no, .no]) (st := st) (xs := asOf k) (by simp [itS]) (LE hk) (by simp) fun d hd => by
    simp [cmpD, (in_seq (FL hk d hd) (key_in ho).2.2.1).1]
  let E : Sl → List Sl := fun x => [.im (.str k), .im (.str o), .im (.tuple (asOf k)), .im (.tuple (asOf o)), .im (.tuple (inter k o)), .no, x]
  have lp := for_find (f := fb cl (.one 6) (.cons (.iff (.cmp .eq (.call "atoms_of" (.cons (.var 6) .nil)) (.var 4)) (.cons (.ret (.var 6)) .nil) .nil) .nil)) (p := fun f => sameT (.tuple (asOf f)) (.tuple (inter k o))) (st := st) (fun env => ∃ x, env = E x) KS (E .no) ⟨_, rfl⟩ fun s hs env ⟨x, e⟩ => by
    subst e
    obtain ⟨b, e1, e2⟩ := P.kn s hs
    refine ⟨fun h => ?_, fun h => ⟨E (.im (.str s)), ?_, _, rfl⟩⟩
    · rw [e2] at h
      subst h
      simp [fb_eq, sgD, E, ha s st hs, cmpD, e1]
    · rw [e2] at h
      subst h
      simp [fb_eq, sgD, E, ha s st hs, cmpD, e1]
  refine run_of (env := [.im (.str k), .im (.str o), .no, .no, .no, .no, .no]) rfl rfl (sq_nx (e1 := [.im (.str k), .im (.str o), .im (.tuple (asOf k)), .no, .no, .no, .no]) (st1 := st) (set_run (by simp [ha k st hk])) (sq_nx (e1 := [.im (.str k), .im (.str o), .im (.tuple (asOf k)), .im (.tuple (asOf o)), .no, .no, .no]) (st1 := st) (set_run (by simp [ha o st ho]))
    (sq_nx (e1 := E .no) (st1 := st) (by
      rw [q_evS_calm]
      exact set_run (d := .tuple (inter k o)) (by simp [z, biD, inter])) ?_)))
  have ce : (PyData.tuple [(.str "any"), (.str "num"), (.str "nat"), (.str "small"), (.str "digit"), (.str "bit"), (.str "word")]) = .tuple (KS.map PyData.str) := rfl
  unfold meetD
  unfold meetS
  cases e : KS.find? fun f => sameT (.tuple (asOf f)) (.tuple (inter k o)) with
  | some s =>
    rw [e] at lp
    refine sq_rt ?_
    rw [q_evS_calm, q_evS_forr, q_ei_seq, q_ev_con, ce]
    simp only [itS, Option.map_some]
    exact lp
  | none =>
    rw [e] at lp
    obtain ⟨env', l1, x, l2⟩ := lp
    subst l2
    refine sq_nx (e1 := E x) (st1 := st) ?_ (sq_rt (by rw [q_evS_calm]; exact ret_run (by simp [Cst.d])))
    rw [q_evS_calm, q_evS_forr, q_ei_seq, q_ev_con, ce]
    simp only [itS, Option.map_some]
    exact l1
theorem join_run {cl : Cl} (ha : AtomsOk cl) (hl : LwithOk cl) (k o : Str) (st : Pl) (hk : k ∈ KS) (ho : o ∈ KS) : runI 2 cl I_join [some (.str k), some (.str o)] st = some (.str (joinS k o), st) := by
  have P := pf_at hk ho
  have z := hl (bothT k o) _ st (FB hk ho) (Nat.le_trans (LB hk ho) (by decide)) P.jn.1
  refine run_of (env := [.im (.str k), .im (.str o), .no]) rfl rfl (sq_nx (e1 := [.im (.str k), .im (.str o), .im (.tuple (bothT k o))]) (st1 := st) (set_run (by simp [ha k st hk, ha o st ho, (addT hk ho).1])) (sq_rt (by rw [q_evS_calm]; exact ret_run (by simp [z]))))
theorem any_ks : (Str.ofString "any") ∈ KS := by decide
theorem odds_run {cl : Cl} (ha : AtomsOk cl) (hu : UndOk cl) (k o : Str) (st : Pl) (hk : k ∈ KS) (ho : o ∈ KS) : runI 2 cl I_at_odds [some (.str k), some (.str o)] st = some (.bool (oddsB k o), st) := by
  refine run_of (env := [.im (.str k), .im (.str o), .no, .no]) rfl rfl (sq_nx (e1 := [.im (.str k), .im (.str o), .im (.tuple (bothT k o)), .no]) (st1 := st) (set_run (by simp [ha k st hk, ha o st ho, (addT hk ho).1])) ?_)
  have z := any_ev (cl := cl) (it := .seq (.call "atoms_of" (.cons (.cst (.str "any")) .nil))) (e := .cmp .notin (.var 3) (.var 2)) (j := 3) (p := fun d => !mb (bothT k o) d) (env := [.im (.str k), .im (.str o), .im (.tuple (bothT k o)), .no]) (st := st) (xs := asOf "any") (by simp [itS, Cst.d, ha _ st any_ks]) (LE any_ks) fun d hd => by
    simp [cmpD, (in_seq (FL any_ks d hd) (FB hk ho)).1]
  unfold oddsB
  by_cases c : (uB k o || uB o k) = true
  · rw [if_pos c]
    refine sq_rt ?_
    rw [q_evS_calm, q_evS_iff]
    have y : ev cl (.or (.call "under" (.cons (.var 0) (.cons (.var 1) .nil))) (.call "under" (.cons (.var 1) (.cons (.var 0) .nil)))) [.im (.str k), .im (.str o), .im (.tuple (bothT k o)), .no] st = some (.bool true, st) := by
      cases e : uB k o with
      | true => simp [hu k o st hk ho, e]
      | false =>
        rw [e] at c
        simp only [Bool.false_or] at c
        simp [hu k o st hk ho, hu o k st ho hk, e, c]
    rw [y]
    simp [Cst.d]
  · rw [if_neg c]
    rw [Bool.not_eq_true, Bool.or_eq_false_iff] at c
    refine sq_nx (e1 := [.im (.str k), .im (.str o), .im (.tuple (bothT k o)), .no]) (st1 := st) ?_ (sq_rt (ret_run (by rw [q_ev_qt]; exact z)))
    rw [q_evS_calm, q_evS_iff]
    simp [hu k o st hk ho, hu o k st ho hk, c.1, c.2]
end K02

set_option Elab.async false
set_option linter.all false
set_option maxRecDepth 100000
set_option maxHeartbeats 4000000
namespace K02
open PySem Ip Cm
def SmOk (cl : Cl) : Prop := ∀ d st, Cm.scal d → cl "_law_same" [some d, some d] st = some (.bool true, st)
def SmH (cl : Cl) : Prop := ∀ (s : Str) (st : Pl), cl (hotN "_law_same") [some (.str s), some (.str s)] st = some (.bool true, st)
theorem smh_run (cl : Cl) (s : Str) (st : Pl) : runI 2 cl H_law_same [some (.str s), some (.str s)] st = some (.bool true, st) := by
  simp [runI, runF, H_law_same, Cm.H_law_same, slOf, cmpD, eqD, Cst.d, isiD]
/-! ### what is told of two kinds -/
def BndOk (cl : Cl) : Prop := ∀ k o st, k ∈ KS → o ∈ KS → cl "_law_bounds_told" [some (.str k), some (.str o), some (meetD k o), some (.str (joinS k o))] st = some (.bool true, st)
def PairOk (cl : Cl) : Prop := ∀ k o st, k ∈ KS → o ∈ KS → cl "_law_pair_told" [some (.str k), some (.str o)] st = some (.bool true, st)
theorem sl_meet (k o : Str) : slOf (some (meetD k o)) = .im (meetD k o) := by
  unfold meetD
  cases meetS k o <;> rfl
theorem bnd_run {cl : Cl} (hk0 : KindsOk cl) (ha : LatomsOk cl) (hu : LundOk cl) (k o : Str) (st : Pl) (hk : k ∈ KS) (ho : o ∈ KS) : runI 4 cl I_law_bounds_told [some (.str k), some (.str o), some (meetD k o), some (.str (joinS k o))] st = some (.bool true, st) := by
  have P := pf_at hk ho
  obtain ⟨_, jk⟩ := P.jn
  let E : Sl → Sl → Sl → List Sl := fun x y z => [.im (.str k), .im (.str o), .im (meetD k o), .im (.str (joinS k o)), .im (.list (bothT k o)), x, y, z, .no]
  obtain ⟨env', st', e, x, y, z, e2, e3⟩ := forG_nx (f := fb cl (.one 5) (.cons (.set 6 (.call "_law_atoms" (.cons (.var 5) .nil)))
  (.cons (.set 7 (.bi .all (.cons (.lc 8 (.seq (.var 4)) .nil (.cmp .isin (.var 8) (.var 6))) .nil)))
  (.cons (.iff (.and (.cmp .eq (.var 5) (.var 3)) (.not (.var 7))) (.cons (.ret (.cst (.bl false)))
  .nil) .nil)
  (.cons (.iff (.and (.var 7) (.not (.call "_law_under" (.cons (.var 3) (.cons (.var 5) .nil))))) (.cons (.ret (.cst (.bl false)))
  .nil) .nil)
  (.cons (.iff (.and (.call "_law_under" (.cons (.var 5) (.cons (.var 0) .nil))) (.call "_law_under" (.cons (.var 5) (.cons (.var 1) .nil)))) (.cons (.iff (.or (.cmp .isN (.var 2) (.cst .non)) (.not (.call "_law_under" (.cons (.var 5) (.cons (.var 2) .nil))))) (.cons (.ret (.cst (.bl false)))
  .nil) .nil)
  .nil) .nil)
  .nil))))))
    (fun _ env s => ∃ x y z, env = E x y z ∧ s = st) kindsD (E .no .no .no) st ⟨_, _, _, rfl, rfl⟩
    (fun i d env s hy ⟨x, y, z, e, e2⟩ => by
      subst e
      subst e2
      rw [kinds_ks, List.getElem?_map] at hy
      obtain ⟨b, hb1, rfl⟩ := Option.map_eq_some_iff.mp hy
      have hb : b ∈ KS := List.mem_of_getElem? hb1
      have B := P.bd b hb
      unfold boundB at B
      have ae := all_ev (cl := cl) (it := .seq (.var 4)) (e := .cmp .isin (.var 8) (.var 6)) (j := 8) (p := mb (asOf b)) (env := E (.im (.str b)) (.im (.list (asOf b))) z) (st := s) (xs := bothT k o) (by simp [E, itS]) (Nat.le_trans (LB hk ho) (by decide)) fun d hd => by
        simp [E, cmpD, (in_seq (List.all_eq_true.mp (FB hk ho) d hd) (key_in hb).2.2.1).2]
      simp only at B
      rw [Bool.and_eq_true, Bool.and_eq_true] at B
      obtain ⟨B1, B2, B3⟩ := B
      generalize hA : (bothT k o).all (mb (asOf b)) = A at *
      have q0 : ∀ A, (E (.im (.str b)) (.im (.list (asOf b))) (.im (.bool A)))[0]? = some (.im (.str k)) := fun _ => rfl
      have q1 : ∀ A, (E (.im (.str b)) (.im (.list (asOf b))) (.im (.bool A)))[1]? = some (.im (.str o)) := fun _ => rfl
      have q2 : ∀ A, (E (.im (.str b)) (.im (.list (asOf b))) (.im (.bool A)))[2]? = some (.im (meetD k o)) := fun _ => rfl
      have q3 : ∀ A, (E (.im (.str b)) (.im (.list (asOf b))) (.im (.bool A)))[3]? = some (.im (.str (joinS k o))) := fun _ => rfl
      have q5 : ∀ A, (E (.im (.str b)) (.im (.list (asOf b))) (.im (.bool A)))[5]? = some (.im (.str b)) := fun _ => rfl
      have q7 : ∀ A, (E (.im (.str b)) (.im (.list (asOf b))) (.im (.bool A)))[7]? = some (.im (.bool A)) := fun _ => rfl
      refine ⟨E (.im (.str b)) (.im (.list (asOf b))) (.im (.bool A)), s, ?_, _, _, _, rfl, rfl⟩
      rw [fb_eq]
      show evSs cl _ (E (.im (.str b)) y z) s = _
      refine sq_nx (e1 := E (.im (.str b)) (.im (.list (asOf b))) z) (st1 := s) (set_run (d := .list (asOf b)) (by simp [E, ha b s hb])) ?_
      refine sq_nx (e1 := E (.im (.str b)) (.im (.list (asOf b))) (.im (.bool A))) (st1 := s) (set_run (d := .bool A) ae) ?_
      refine sq_iff (st1 := s) ?_ (sq_iff (st1 := s) ?_ (sq_nx (e1 := E (.im (.str b)) (.im (.list (asOf b))) (.im (.bool A))) (st1 := s) ?_ rfl))
      · by_cases c : b = joinS k o
        · rw [decide_eq_true c] at B1
          cases A with
          | false => cases B1
          | true =>
            have e1 : eqD (.str b) (.str (joinS k o)) = some true := by
              show some (decide _) = _
              rw [decide_eq_true c]
            simp [q5, q3, q7, cmpD, e1]
        · have e1 : eqD (.str b) (.str (joinS k o)) = some false := by
            show some (decide _) = _
            rw [decide_eq_false c]
          simp [q5, q3, cmpD, e1]
      · cases A with
        | false => simp [q7]
        | true =>
          cases c : uB (joinS k o) b with
          | false =>
            rw [c] at B2
            cases B2
          | true => simp [q7, q3, q5, hu _ _ s jk hb, c]
      · rw [q_evS_iff]
        cases c1 : uB b k with
        | false => simp [q5, q0, hu _ _ s hb hk, c1]
        | true =>
          cases c2 : uB b o with
          | false => simp [q5, q0, q1, hu _ _ s hb hk, hu _ _ s hb ho, c1, c2]
          | true =>
            rw [c1, c2] at B3
            cases c3 : meetS k o with
            | none =>
              rw [c3] at B3
              cases B3
            | some l =>
              rw [c3] at B3
              simp only [Bool.and_self, Bool.not_true, Bool.false_or] at B3
              have lk : l ∈ KS := by
                rcases P.mt with ⟨m1, _⟩ | ⟨l2, m1, m2, _⟩
                · rw [c3] at m1
                  cases m1
                · rw [c3] at m1
                  cases m1
                  exact m2
              have ml : meetD k o = .str l := by
                unfold meetD
                rw [c3]
              simp [q5, q0, q1, q2, ml, hu _ _ s hb hk, hu _ _ s hb ho, c1, c2, cmpD, Cst.d, hu _ _ s hb lk, B3])
  subst e2
  subst e3
  refine run_of (env := [.im (.str k), .im (.str o), .im (meetD k o), .im (.str (joinS k o)), .no, .no, .no, .no, .no]) rfl (by
    show [slOf (some (.str k)), slOf (some (.str o)), slOf (some (meetD k o)), slOf (some (.str (joinS k o)))] ++ _ = _
    rw [sl_meet]
    rfl) (sq_nx (e1 := E .no .no .no) (st1 := st') (set_run (by simp [ha k st' hk, ha o st' ho, (addT hk ho).2])) (sq_nx (e1 := E x y z) (st1 := st') ?_ (sq_rt (ret_run (by simp [Cst.d])))))
  simp only [q_evS_forr, q_ei_seq]
  simp [hk0 st', itS, e]
theorem pair_run {cl : Cl} (hk0 : KindsOk cl) (ha : LatomsOk cl) (hs : SmOk cl) (hU : UndOk cl) (hO : OddsOk cl) (hM : MeetOk cl) (hJ : JoinOk cl) (hB : BndOk cl) (k o : Str) (st : Pl) (hk : k ∈ KS) (ho : o ∈ KS) : runI 2 cl I_law_pair_told [some (.str k), some (.str o)] st = some (.bool true, st) := by
  have P := pf_at hk ho
  obtain ⟨_, jk⟩ := P.jn
  have sb : ∀ b st, cl "_law_same" [some (.bool b), some (.bool b)] st = some (.bool true, st) := fun b st => hs _ _ True.intro
  have fk := (key_in hk).2.2.1
  have fo := (key_in ho).2.2.1
  have rg : rngD 0 6 = some ((List.range 6).map fun (k : Nat) => PyData.int (k : Int)) := rngD_nat (n := 6) (by decide) (by decide)
  let E : Sl → Sl → Sl → Sl → Sl → Sl → List Sl := fun a b c d e f => [.im (.str k), .im (.str o), .im (.list (asOf k)), .im (.list (asOf o)), a, .no, b, c, d, e, f]
  refine run_of (env := [.im (.str k), .im (.str o), .no, .no, .no, .no, .no, .no, .no, .no, .no]) rfl rfl ?_
  refine sq_nx (e1 := [.im (.str k), .im (.str o), .im (.list (asOf k)), .no, .no, .no, .no, .no, .no, .no, .no]) (st1 := st) (set_run (by simp [ha k st hk])) ?_
  refine sq_nx (e1 := E .no .no .no .no .no .no) (st1 := st) (set_run (by simp [ha o st ho])) ?_
  refine sq_nx (e1 := E (.im (.bool (uB k o))) .no .no .no .no .no) (st1 := st) (set_run (all_ev (xs := asOf k) (p := mb (asOf o)) (by simp [E, itS]) (LE hk) fun d hd => by simp [E, cmpD, (in_seq (FL hk d hd) fo).2])) ?_
  refine sq_nx (e1 := E (.im (.bool (uB k o))) (.im (.bool (uB o k))) .no .no .no .no) (st1 := st) (set_run (all_ev (xs := asOf o) (p := mb (asOf k)) (by simp [E, itS]) (LE ho) fun d hd => by simp [E, cmpD, (in_seq (FL ho d hd) fk).2])) ?_
  refine sq_nx (e1 := E (.im (.bool (uB k o))) (.im (.bool (uB o k))) (.im (.list (inter k o))) .no .no .no) (st1 := st) (set_run (flt_ev (xs := asOf k) (p := mb (asOf o)) (by simp [E, itS]) (LE hk) (by simp [E]) fun d hd => by simp [E, cmpD, (in_seq (FL hk d hd) fo).2])) ?_
  refine sq_nx (e1 := E (.im (.bool (uB k o))) (.im (.bool (uB o k))) (.im (.list (inter k o))) (.im (.list (outs k o))) .no .no) (st1 := st) (set_run (flt_ev (xs := (List.range 6).map fun (n : Nat) => PyData.int (n : Int)) (p := fun d => !mb (bothT k o) d) (by simp [E, Cst.d, rg]) (by decide) (by simp [E]) fun d hd => by
    have fd : flatD d = true := by
      obtain ⟨n, _, rfl⟩ := List.mem_map.mp hd
      rfl
    simp [E, (addT hk ho).2, cmpD, (in_seq fd (FB hk ho)).2])) ?_
  refine sq_iff (st1 := st) (by simp [E, hU k o st hk ho, sb]) ?_
  have od : ev cl (.and (.not (.var 4)) (.and (.not (.var 6)) (.cmp .gt (.bi .len (.cons (.var 8) .nil)) (.cst (.int 0))))) (E (.im (.bool (uB k o))) (.im (.bool (uB o k))) (.im (.list (inter k o))) (.im (.list (outs k o))) .no .no) st = some (.bool (oddsB k o), st) := by
    rw [P.od]
    cases uB k o <;> cases uB o k <;> simp [E, biD, cmpD, Cst.d]
  refine sq_iff (st1 := st) (by
    have z : (E (.im (.bool (uB k o))) (.im (.bool (uB o k))) (.im (.list (inter k o))) (.im (.list (outs k o))) .no .no)[0]? = some (.im (.str k)) := rfl
    have z1 : (E (.im (.bool (uB k o))) (.im (.bool (uB o k))) (.im (.list (inter k o))) (.im (.list (outs k o))) .no .no)[1]? = some (.im (.str o)) := rfl
    have od' := od
    simp only [q_ev_not, q_ev_call, q_ag_cons, q_ag_nil, q_ev_var, z, z1, hO k o st hk ho, od', sb]
    rfl) ?_
  refine sq_nx (e1 := E (.im (.bool (uB k o))) (.im (.bool (uB o k))) (.im (.list (inter k o))) (.im (.list (outs k o))) (.im (meetD k o)) .no) (st1 := st) (set_run (by simp [E, hM k o st hk ho])) ?_
  refine sq_nx (e1 := E (.im (.bool (uB k o))) (.im (.bool (uB o k))) (.im (.list (inter k o))) (.im (.list (outs k o))) (.im (meetD k o)) .no) (st1 := st) ?_ ?_
  · rw [q_evS_iff]
    rcases P.mt with ⟨m1, m2⟩ | ⟨l, m1, m2, m3⟩
    · have ml : meetD k o = .none := by
        unfold meetD
        rw [m1]
      simp [E, ml, cmpD, Cst.d, biD, m2]
    · have ml : meetD k o = .str l := by
        unfold meetD
        rw [m1]
      simp [E, ml, cmpD, Cst.d, hk0 st, not_in m2, ha l st m2, m3]
  refine sq_nx (e1 := E (.im (.bool (uB k o))) (.im (.bool (uB o k))) (.im (.list (inter k o))) (.im (.list (outs k o))) (.im (meetD k o)) (.im (.str (joinS k o)))) (st1 := st) (set_run (by simp [E, hJ k o st hk ho])) ?_
  refine sq_iff (st1 := st) (by simp [E, hk0 st, cmpD, not_in jk]) ?_
  exact sq_rt (ret_run (by simp [E, hB k o st hk ho]))
end K02

set_option Elab.async false
set_option linter.all false
set_option maxRecDepth 100000
set_option maxHeartbeats 4000000
namespace K02
open PySem Ip Cm
/-! A kind that there is not. -/
/-- the first that is no kind -/
def fbd (k o : Str) : Str := if k ∈ KS then o else k
structure Bad (k o : Str) : Prop where
  no : k ∉ KS ∨ o ∉ KS
  kl : k.length ≤ 1000
  ol : o.length ≤ 1000
def AtomsN (cl : Cl) : Prop := ∀ (s : Str) st, s ∉ KS → cl "atoms_of" [some (.str s)] st = none
theorem atoms_n (cl : Cl) (s : Str) (st : Pl) (h : s ∉ KS) : runI 1 cl I_atoms_of [some (.str s)] st = none := by
  simp [runI, runF, I_atoms_of, slOf, key_out h]
def AtomsXN (cl : Cl) : Prop := ∀ (s : Str) st, s ∈ KS → cl (bang "atoms_of") [some (.str s)] st = none
theorem xv_calm {cl : Cl} {i : IS} {env : List Sl} {st : Pl} : xvS cl (.calm i) env st = none := rfl
theorem atoms_xn (cl : Cl) (s : Str) (st : Pl) (h : s ∈ KS) : runX 1 cl I_atoms_of [some (.str s)] st = none := by
  simp [runX, I_atoms_of, slOf, (key_in h).1, xv_calm]
def RaisesX (cl : Cl) (f : Str) : Prop := ∀ k o st, Bad k o → cl (bang f) [some (.str k), some (.str o)] st = some (erD ("BadKind", .str (fbd k o)), st)
def RaisesN (cl : Cl) (f : Str) : Prop := ∀ k o st, Bad k o → cl f [some (.str k), some (.str o)] st = none
section
variable {cl : Cl} (ha : AtomsOk cl) (hx : AtomsX cl) (hn : AtomsN cl) (hz : AtomsXN cl) {k o : Str} (st : Pl) (b : Bad k o)
include ha hx hn hz b
theorem und_x : runX 2 cl I_under [some (.str k), some (.str o)] st = some (erD ("BadKind", .str (fbd k o)), st) := by
  by_cases c : k ∈ KS
  · have ho := b.no.resolve_left fun h => h c
    simp [runX, I_under, slOf, ha k st c, hz k st c, hx o st ho b.ol, hn o st ho, erD, erOf, fbd, c]
  · simp [runX, I_under, slOf, hx k st c b.kl, erD, erOf, fbd, c]
theorem und_n : runI 2 cl I_under [some (.str k), some (.str o)] st = none := by
  by_cases c : k ∈ KS
  · have ho := b.no.resolve_left fun h => h c
    simp [runI, runF, I_under, slOf, ha k st c, hn o st ho]
  · simp [runI, runF, I_under, slOf, hn k st c]
theorem meet_x : runX 2 cl I_meet [some (.str k), some (.str o)] st = some (erD ("BadKind", .str (fbd k o)), st) := by
  by_cases c : k ∈ KS
  · have ho := b.no.resolve_left fun h => h c
    simp [runX, I_meet, slOf, ha k st c, hz k st c, hx o st ho b.ol, hn o st ho, erD, erOf, fbd, c]
  · simp [runX, I_meet, slOf, hx k st c b.kl, erD, erOf, fbd, c]
theorem meet_n : runI 2 cl I_meet [some (.str k), some (.str o)] st = none := by
  by_cases c : k ∈ KS
  · have ho := b.no.resolve_left fun h => h c
    simp [runI, runF, I_meet, slOf, ha k st c, hn o st ho]
  · simp [runI, runF, I_meet, slOf, hn k st c]
theorem join_x : runX 2 cl I_join [some (.str k), some (.str o)] st = some (erD ("BadKind", .str (fbd k o)), st) := by
  by_cases c : k ∈ KS
  · have ho := b.no.resolve_left fun h => h c
    simp [runX, I_join, slOf, ha k st c, hz k st c, hx o st ho b.ol, hn o st ho, erD, erOf, fbd, c]
  · simp [runX, I_join, slOf, hx k st c b.kl, erD, erOf, fbd, c]
theorem join_n : runI 2 cl I_join [some (.str k), some (.str o)] st = none := by
  by_cases c : k ∈ KS
  · have ho := b.no.resolve_left fun h => h c
    simp [runI, runF, I_join, slOf, ha k st c, hn o st ho]
  · simp [runI, runF, I_join, slOf, hn k st c]
theorem odds_x : runX 2 cl I_at_odds [some (.str k), some (.str o)] st = some (erD ("BadKind", .str (fbd k o)), st) := by
  by_cases c : k ∈ KS
  · have ho := b.no.resolve_left fun h => h c
    simp [runX, I_at_odds, slOf, ha k st c, hz k st c, hx o st ho b.ol, hn o st ho, erD, erOf, fbd, c]
  · simp [runX, I_at_odds, slOf, hx k st c b.kl, erD, erOf, fbd, c]
theorem odds_n : runI 2 cl I_at_odds [some (.str k), some (.str o)] st = none := by
  by_cases c : k ∈ KS
  · have ho := b.no.resolve_left fun h => h c
    simp [runI, runF, I_at_odds, slOf, ha k st c, hn o st ho]
  · simp [runI, runF, I_at_odds, slOf, hn k st c]
end
end K02

set_option Elab.async false
set_option linter.all false
set_option maxRecDepth 100000
set_option maxHeartbeats 4000000
namespace K02
open PySem L2 Ip
def top (i : Nat) : Stmt := PySem.Challenge.pw_quickways_k02_whole_order_of_kinds.main.body.getD i (.Pass ⟨0, 0, 0, 0⟩)
abbrev es : List (Str × Str) := [("BadKind", "kind")]
abbrev ks : List (Str × Str × Bool) := [("BadKind", "BadWay", false), ("BadKind", "ValueError", true), ("BadKind", "QuickError", true), ("BadKind", "BadKind", true)]
abbrev ts : List (Str × Str × Bool) := [("BadKind", "BadKind", true), ("BadKind", "QuickError", true)]
abbrev gs : List (Str × PyData) := [("KINDS", (.tuple [(.str "any"), (.str "num"), (.str "nat"), (.str "small"), (.str "digit"), (.str "bit"), (.str "word")]))]
abbrev df : List (Str × List Cst) := []
abbrev kd : List (Str × List (Str × PyData)) := [("ATOMS", t_ATOMS)]
def n_atoms_of : List Str := ["kind"]
abbrev g_atoms_of (K : PySem.W.Frag) (cl : Cl) : Gam := { N := n_atoms_of, sc := defScope (top 7), K := K, cl := cl, fs := [], bs := [], xs := [], es := es, hs := [], hot := false, ks := ks, ts := ts, gs := gs, df := df, gn := [], kd := kd, lx := [], lm := false, io := none, fr := false, fi := [], ff := [] }
theorem d_atoms_of (K : PySem.W.Frag) (cl : Cl) : SSs (g_atoms_of K cl) (defBody (top 7)) I_atoms_of.body :=
(sss_cons (ss_iff (knin_st 0 (se_var 0))
(sss_cons ss_rse0
sss_nil)
sss_nil)
(sss_cons (ss_calm (ss_ret (kget_se 0 (se_var 0))))
sss_nil))
theorem x_atoms_of (K : PySem.W.Frag) (cl : Cl) : SSsX (g_atoms_of K cl) (defBody (top 7)) I_atoms_of.body :=
(sssx_cons (ssx_iff (knin_st 0 (se_var 0))
(sssx_cons (ssx_rse (fld := "kind") (se_var 0) (lit_el (by rfl)))
sssx_nil)
sssx_nil)
(sssx_cons (ssx_calm (ss_ret (kget_se 0 (se_var 0))))
sssx_nil))
theorem s_atoms_of : FnScope n_atoms_of ["kind"] (defScope (top 7)) := ⟨rfl, rfl, rfl, by decide +kernel, rfl, by decide +kernel, by decide +kernel⟩
def n_under : List Str := ["kind", "other", "inner", "outer", "atom"]
abbrev g_under (K : PySem.W.Frag) (cl : Cl) : Gam := { N := n_under, sc := defScope (top 8), K := K, cl := cl, fs := ["atoms_of"], bs := ["all"], xs := ["atoms_of"], es := es, hs := [], hot := false, ks := ks, ts := ts, gs := gs, df := df, gn := [], kd := kd, lx := [], lm := false, io := none, fr := false, fi := [], ff := [] }
theorem d_under (K : PySem.W.Frag) (cl : Cl) : SSs (g_under K cl) (defBody (top 8)) I_under.body :=
(sss_cons (ss_set 2 (call_se (sg_cons (se_var 0) sg_nil)))
(sss_cons (ss_set 3 (call_se (sg_cons (se_var 1) sg_nil)))
(sss_cons (ss_calm (ss_ret (all_se (lc_se 4 (si_seq (se_var 2)) sts_nil (cmp_se cIn (se_var 4) (se_var 3) rfl)))))
sss_nil)))
theorem x_under (K : PySem.W.Frag) (cl : Cl) : SSsX (g_under K cl) (defBody (top 8)) I_under.body :=
(sssx_cons (ssx_set 2 (sx_call (sg_cons (se_var 0) sg_nil)))
(sssx_cons (ssx_set 3 (sx_call (sg_cons (se_var 1) sg_nil)))
(sssx_cons (ssx_calm (ss_ret (all_se (lc_se 4 (si_seq (se_var 2)) sts_nil (cmp_se cIn (se_var 4) (se_var 3) rfl)))))
sssx_nil)))
theorem s_under : FnScope n_under ["kind", "other"] (defScope (top 8)) := ⟨rfl, rfl, rfl, by decide +kernel, rfl, by decide +kernel, by decide +kernel⟩
def n_meet : List Str := ["kind", "other", "inner", "outer", "shared", "atom", "found"]
abbrev g_meet (K : PySem.W.Frag) (cl : Cl) : Gam := { N := n_meet, sc := defScope (top 9), K := K, cl := cl, fs := ["atoms_of"], bs := ["tuple"], xs := ["atoms_of"], es := es, hs := [], hot := false, ks := ks, ts := ts, gs := gs, df := df, gn := [], kd := kd, lx := [], lm := false, io := none, fr := false, fi := [], ff := [] }
theorem d_meet (K : PySem.W.Frag) (cl : Cl) : SSs (g_meet K cl) (defBody (top 9)) I_meet.body :=
(sss_cons (ss_set 2 (call_se (sg_cons (se_var 0) sg_nil)))
(sss_cons (ss_set 3 (call_se (sg_cons (se_var 1) sg_nil)))
(sss_cons (ss_calm (ss_set 4 (tuple_se (lc_se 5 (si_seq (se_var 2)) (sts_one (cmp_st cIn (se_var 5) (se_var 3) rfl)) (se_var 5)))))
(sss_cons (ss_calm (ss_for (si_seq (con_se 0)) (tg_one 6)
(sss_cons (ss_iff (cmp_st cEq (call_se (sg_cons (se_var 6) sg_nil)) (se_var 4) rfl)
(sss_cons (ss_ret (se_var 6))
sss_nil)
sss_nil)
sss_nil)))
(sss_cons (ss_calm (ss_ret se_non))
sss_nil)))))
theorem x_meet (K : PySem.W.Frag) (cl : Cl) : SSsX (g_meet K cl) (defBody (top 9)) I_meet.body :=
(sssx_cons (ssx_set 2 (sx_call (sg_cons (se_var 0) sg_nil)))
(sssx_cons (ssx_set 3 (sx_call (sg_cons (se_var 1) sg_nil)))
(sssx_cons (ssx_calm (ss_set 4 (tuple_se (lc_se 5 (si_seq (se_var 2)) (sts_one (cmp_st cIn (se_var 5) (se_var 3) rfl)) (se_var 5)))))
(sssx_cons (ssx_calm (ss_for (si_seq (con_se 0)) (tg_one 6)
(sss_cons (ss_iff (cmp_st cEq (call_se (sg_cons (se_var 6) sg_nil)) (se_var 4) rfl)
(sss_cons (ss_ret (se_var 6))
sss_nil)
sss_nil)
sss_nil)))
(sssx_cons (ssx_calm (ss_ret se_non))
sssx_nil)))))
theorem s_meet : FnScope n_meet ["kind", "other"] (defScope (top 9)) := ⟨rfl, rfl, rfl, by decide +kernel, rfl, by decide +kernel, by decide +kernel⟩
def n_join : List Str := ["kind", "other", "atoms"]
abbrev g_join (K : PySem.W.Frag) (cl : Cl) : Gam := { N := n_join, sc := defScope (top 10), K := K, cl := cl, fs := ["_least_with", "atoms_of"], bs := [], xs := ["atoms_of"], es := es, hs := [], hot := false, ks := ks, ts := ts, gs := gs, df := df, gn := [], kd := kd, lx := [], lm := false, io := none, fr := false, fi := [], ff := [] }
theorem d_join (K : PySem.W.Frag) (cl : Cl) : SSs (g_join K cl) (defBody (top 10)) I_join.body :=
(sss_cons (ss_set 2 (bin_add (call_se (sg_cons (se_var 0) sg_nil)) (call_se (sg_cons (se_var 1) sg_nil))))
(sss_cons (ss_calm (ss_ret (call_se (sg_cons (se_var 2) sg_nil))))
sss_nil))
theorem x_join (K : PySem.W.Frag) (cl : Cl) : SSsX (g_join K cl) (defBody (top 10)) I_join.body :=
(sssx_cons (ssx_set 2 (sx_add (sx_call (sg_cons (se_var 0) sg_nil)) (sx_call (sg_cons (se_var 1) sg_nil))))
(sssx_cons (ssx_calm (ss_ret (call_se (sg_cons (se_var 2) sg_nil))))
sssx_nil))
theorem s_join : FnScope n_join ["kind", "other"] (defScope (top 10)) := ⟨rfl, rfl, rfl, by decide +kernel, rfl, by decide +kernel, by decide +kernel⟩
def n_at_odds : List Str := ["kind", "other", "atoms", "atom"]
abbrev g_at_odds (K : PySem.W.Frag) (cl : Cl) : Gam := { N := n_at_odds, sc := defScope (top 11), K := K, cl := cl, fs := ["atoms_of", "under"], bs := ["any"], xs := ["atoms_of"], es := es, hs := [], hot := false, ks := ks, ts := ts, gs := gs, df := df, gn := [], kd := kd, lx := [], lm := false, io := none, fr := false, fi := [], ff := [] }
theorem d_at_odds (K : PySem.W.Frag) (cl : Cl) : SSs (g_at_odds K cl) (defBody (top 11)) I_at_odds.body :=
(sss_cons (ss_set 2 (bin_add (call_se (sg_cons (se_var 0) sg_nil)) (call_se (sg_cons (se_var 1) sg_nil))))
(sss_cons (ss_calm (ss_iff (st_sw (sw_or (st_se (call_se (sg_cons (se_var 0) (sg_cons (se_var 1) sg_nil)))) (sw_or1 (st_se (call_se (sg_cons (se_var 1) (sg_cons (se_var 0) sg_nil)))))))
(sss_cons (ss_ret se_bl)
sss_nil)
sss_nil))
(sss_cons (ss_ret (qt_se (any_se (lc_se 3 (si_seq (call_se (sg_cons se_str sg_nil))) sts_nil (cmp_se cNotIn (se_var 3) (se_var 2) rfl)))))
sss_nil)))
theorem x_at_odds (K : PySem.W.Frag) (cl : Cl) : SSsX (g_at_odds K cl) (defBody (top 11)) I_at_odds.body :=
(sssx_cons (ssx_set 2 (sx_add (sx_call (sg_cons (se_var 0) sg_nil)) (sx_call (sg_cons (se_var 1) sg_nil))))
(sssx_cons (ssx_calm (ss_iff (st_sw (sw_or (st_se (call_se (sg_cons (se_var 0) (sg_cons (se_var 1) sg_nil)))) (sw_or1 (st_se (call_se (sg_cons (se_var 1) (sg_cons (se_var 0) sg_nil)))))))
(sss_cons (ss_ret se_bl)
sss_nil)
sss_nil))
(sssx_cons (ssx_ret (qt_sx (any_se (lc_se 3 (si_seq (call_se (sg_cons se_str sg_nil))) sts_nil (cmp_se cNotIn (se_var 3) (se_var 2) rfl)))))
sssx_nil)))
theorem s_at_odds : FnScope n_at_odds ["kind", "other"] (defScope (top 11)) := ⟨rfl, rfl, rfl, by decide +kernel, rfl, by decide +kernel, by decide +kernel⟩
def n_least_with : List Str := ["atoms", "found", "kind", "atom"]
abbrev g_least_with (K : PySem.W.Frag) (cl : Cl) : Gam := { N := n_least_with, sc := defScope (top 12), K := K, cl := cl, fs := ["atoms_of"], bs := ["min", "len", "all"], xs := [], es := es, hs := [], hot := false, ks := ks, ts := ts, gs := gs, df := df, gn := [], kd := kd, lx := ["atoms_of"], lm := true, io := none, fr := false, fi := [], ff := [] }
theorem d_least_with (K : PySem.W.Frag) (cl : Cl) : SSs (g_least_with K cl) (defBody (top 12)) I_least_with.body :=
(sss_cons (ss_lc 1 2 (si_seq (con_se 0)) (sts_one (st_se (all_se (lc_se 3 (si_seq (se_var 0)) sts_nil (cmp_se cIn (se_var 3) (call_se (sg_cons (se_var 2) sg_nil)) rfl))))) (se_var 2))
(sss_cons (ss_ret (mink_se (se_var 1) (len_se (call_se (sg_cons (se_var 0) sg_nil))) ⟨rfl, rfl, rfl, by decide +kernel, rfl, by decide +kernel, by decide +kernel⟩))
sss_nil))
theorem s_least_with : FnScope n_least_with ["atoms"] (defScope (top 12)) := ⟨rfl, rfl, rfl, by decide +kernel, rfl, by decide +kernel, by decide +kernel⟩
def n_law_mixed : List Str := ["_law_cell", "_law_turn", "_law_limit", "_law_first", "_law_second", "_law_third"]
abbrev g_law_mixed (K : PySem.W.Frag) (cl : Cl) : Gam := { N := n_law_mixed, sc := defScope (top 15), K := K, cl := cl, fs := [], bs := ["int"], xs := [], es := es, hs := [], hot := false, ks := ks, ts := ts, gs := gs, df := df, gn := [], kd := kd, lx := [], lm := false, io := none, fr := false, fi := [], ff := [] }
theorem d_law_mixed (K : PySem.W.Frag) (cl : Cl) : SSs (g_law_mixed K cl) (defBody (top 15)) I_law_mixed.body :=
(sss_cons (ss_set 3 (bin_mod (int_se (bin_add (bin_add (bin_mul (se_var 0) se_int) (bin_mul (se_var 1) se_int)) se_int)) se_int))
(sss_cons (ss_set 4 (bin_mod (int_se (bin_add (bin_add (bin_mul (se_var 3) se_int) (bin_mul (se_var 0) se_int)) (bin_mul (se_var 1) se_int))) se_int))
(sss_cons (ss_set 5 (bin_mod (int_se (bin_add (bin_mul (se_var 4) se_int) (bin_fdv (se_var 3) se_int))) se_int))
(sss_cons (ss_ret (bin_mod (int_se (se_var 5)) (se_var 2)))
sss_nil))))
theorem s_law_mixed : FnScope n_law_mixed ["_law_cell", "_law_turn", "_law_limit"] (defScope (top 15)) := ⟨rfl, rfl, rfl, by decide +kernel, rfl, by decide +kernel, by decide +kernel⟩
def n_law_draw : List Str := ["_law_pool_here", "_law_limit", "_law_digit", "_law_cell"]
abbrev g_law_draw (K : PySem.W.Frag) (cl : Cl) : Gam := { N := n_law_draw, sc := defScope (top 16), K := K, cl := cl, fs := ["_law_mixed"], bs := ["int", "len"], xs := [], es := es, hs := [], hot := false, ks := ks, ts := ts, gs := gs, df := df, gn := [], kd := kd, lx := [], lm := false, io := none, fr := false, fi := [], ff := [] }
theorem d_law_draw (K : PySem.W.Frag) (cl : Cl) : SSs (g_law_draw K cl) (defBody (top 16)) I_law_draw.body :=
(sss_cons (ss_iff (cmp_st cGt (pix_se 0 2) se_int rfl)
(sss_cons (ss_set 2 (bin_mod (int_se (pix_se 0 2)) (se_var 1)))
(sss_cons (ss_pput 0 2 (bin_fdv (pix_se 0 2) (se_var 1)))
(sss_cons (ss_ret (se_var 2))
sss_nil)))
sss_nil)
(sss_cons (ss_iff (cmp_st cGt (pix_se 0 4) se_int rfl)
(sss_cons (ss_pput 0 4 (bin_sub (pix_se 0 4) se_int))
(sss_cons (ss_ret (call_se (sg_cons (pix_se 0 3) (sg_cons (pix_se 0 4) (sg_cons (se_var 1) sg_nil)))))
sss_nil))
sss_nil)
(sss_cons (ss_iff (cmp_st cGe (pix_se 0 1) (plen_se 0) rfl)
(sss_cons (ss_ret se_int)
sss_nil)
sss_nil)
(sss_cons (ss_set 3 (pcel_se 0))
(sss_cons (ss_pput 0 1 (bin_add (pix_se 0 1) se_int))
(sss_cons (ss_iff (cmp_st cLt (se_var 3) se_int rfl)
(sss_cons (ss_set 3 (bin_sub (se_neg se_int) (se_var 3)))
sss_nil)
sss_nil)
(sss_cons (ss_iff (cmp_st cGe (se_var 3) (bin_pow se_int se_int) rfl)
(sss_cons (ss_pput 0 2 (bin_fdv (se_var 3) (se_var 1)))
(sss_cons (ss_ret (bin_mod (int_se (se_var 3)) (se_var 1)))
sss_nil))
sss_nil)
(sss_cons (ss_pput 0 3 (se_var 3))
(sss_cons (ss_pput 0 4 se_int)
(sss_cons (ss_ret (call_se (sg_cons (se_var 3) (sg_cons se_int (sg_cons (se_var 1) sg_nil)))))
sss_nil))))))))))
theorem s_law_draw : FnScope n_law_draw ["_law_pool_here", "_law_limit"] (defScope (top 16)) := ⟨rfl, rfl, rfl, by decide +kernel, rfl, by decide +kernel, by decide +kernel⟩
def n_law_kinds : List Str := []
abbrev g_law_kinds (K : PySem.W.Frag) (cl : Cl) : Gam := { N := n_law_kinds, sc := defScope (top 17), K := K, cl := cl, fs := [], bs := [], xs := [], es := es, hs := [], hot := false, ks := ks, ts := ts, gs := gs, df := df, gn := [], kd := kd, lx := [], lm := false, io := none, fr := false, fi := [], ff := [] }
theorem d_law_kinds (K : PySem.W.Frag) (cl : Cl) : SSs (g_law_kinds K cl) (defBody (top 17)) I_law_kinds.body :=
(sss_cons (ss_ret (lst_se (sa_cons se_str (sa_cons se_str (sa_cons se_str (sa_cons se_str (sa_cons se_str (sa_cons se_str (sa_cons se_str sa_nil)))))))))
sss_nil)
theorem s_law_kinds : FnScope n_law_kinds [] (defScope (top 17)) := ⟨rfl, rfl, rfl, by decide +kernel, rfl, by decide +kernel, by decide +kernel⟩
def n_law_atoms : List Str := ["_law_kind", "_law_table"]
abbrev g_law_atoms (K : PySem.W.Frag) (cl : Cl) : Gam := { N := n_law_atoms, sc := defScope (top 18), K := K, cl := cl, fs := [], bs := [], xs := [], es := es, hs := [], hot := false, ks := ks, ts := ts, gs := gs, df := df, gn := [], kd := kd, lx := [], lm := false, io := none, fr := false, fi := [], ff := [] }
theorem d_law_atoms (K : PySem.W.Frag) (cl : Cl) : SSs (g_law_atoms K cl) (defBody (top 18)) I_law_atoms.body :=
(sss_ktab (tab := t_law_atoms) 1 (.cons (lst_se (sa_cons se_int (sa_cons se_int (sa_cons se_int (sa_cons se_int (sa_cons se_int (sa_cons se_int sa_nil))))))) (fun _ _ => rfl) (.cons (lst_se (sa_cons se_int (sa_cons se_int (sa_cons se_int (sa_cons se_int (sa_cons se_int sa_nil)))))) (fun _ _ => rfl) (.cons (lst_se (sa_cons se_int (sa_cons se_int (sa_cons se_int sa_nil)))) (fun _ _ => rfl) (.cons (lst_se (sa_cons se_int (sa_cons se_int (sa_cons se_int sa_nil)))) (fun _ _ => rfl) (.cons (lst_se (sa_cons se_int (sa_cons se_int sa_nil))) (fun _ _ => rfl) (.cons (lst_se (sa_cons se_int sa_nil)) (fun _ _ => rfl) (.cons (lst_se (sa_cons se_int sa_nil)) (fun _ _ => rfl) .nil))))))) (se_var 0))
theorem s_law_atoms : FnScope n_law_atoms ["_law_kind"] (defScope (top 18)) := ⟨rfl, rfl, rfl, by decide +kernel, rfl, by decide +kernel, by decide +kernel⟩
def n_law_under : List Str := ["_law_kind", "_law_other", "_law_wide", "_law_atom"]
abbrev g_law_under (K : PySem.W.Frag) (cl : Cl) : Gam := { N := n_law_under, sc := defScope (top 19), K := K, cl := cl, fs := ["_law_atoms"], bs := ["all"], xs := [], es := es, hs := [], hot := false, ks := ks, ts := ts, gs := gs, df := df, gn := [], kd := kd, lx := [], lm := false, io := none, fr := false, fi := [], ff := [] }
theorem d_law_under (K : PySem.W.Frag) (cl : Cl) : SSs (g_law_under K cl) (defBody (top 19)) I_law_under.body :=
(sss_cons (ss_set 2 (call_se (sg_cons (se_var 1) sg_nil)))
(sss_cons (ss_ret (all_se (lc_se 3 (si_seq (call_se (sg_cons (se_var 0) sg_nil))) sts_nil (cmp_se cIn (se_var 3) (se_var 2) rfl))))
sss_nil))
theorem s_law_under : FnScope n_law_under ["_law_kind", "_law_other"] (defScope (top 19)) := ⟨rfl, rfl, rfl, by decide +kernel, rfl, by decide +kernel, by decide +kernel⟩
def n_law_word : List Str := ["_law_pool_here", "_law_first", "_law_signs_here", "_law_more", "_law_word_here", "_law_k"]
abbrev g_law_word (K : PySem.W.Frag) (cl : Cl) : Gam := { N := n_law_word, sc := defScope (top 20), K := K, cl := cl, fs := ["_law_draw"], bs := ["range", "len"], xs := [], es := es, hs := [], hot := false, ks := ks, ts := ts, gs := gs, df := df, gn := [], kd := kd, lx := [], lm := false, io := none, fr := false, fi := [], ff := [] }
theorem d_law_word (K : PySem.W.Frag) (cl : Cl) : SSs (g_law_word K cl) (defBody (top 20)) I_law_word.body :=
(sss_cons (ss_set 4 (ix_se (se_var 1) (call_se (sg_pool 0 (sg_cons (len_se (se_var 1)) sg_nil)))))
(sss_cons (ss_for (si_rng1 (se_var 3)) (tg_one 5)
(sss_cons (ss_set 4 (bin_add (se_var 4) (ix_se (se_var 2) (call_se (sg_pool 0 (sg_cons (len_se (se_var 2)) sg_nil))))))
sss_nil))
(sss_cons (ss_ret (se_var 4))
sss_nil)))
theorem s_law_word : FnScope n_law_word ["_law_pool_here", "_law_first", "_law_signs_here", "_law_more"] (defScope (top 20)) := ⟨rfl, rfl, rfl, by decide +kernel, rfl, by decide +kernel, by decide +kernel⟩
def n_law_is_int : List Str := ["_law_thing"]
abbrev g_law_is_int (K : PySem.W.Frag) (cl : Cl) : Gam := { N := n_law_is_int, sc := defScope (top 21), K := K, cl := cl, fs := [], bs := ["isinstance", "int", "bool"], xs := [], es := es, hs := [], hot := false, ks := ks, ts := ts, gs := gs, df := df, gn := [], kd := kd, lx := [], lm := false, io := none, fr := false, fi := [], ff := [] }
theorem d_law_is_int (K : PySem.W.Frag) (cl : Cl) : SSs (g_law_is_int K cl) (defBody (top 21)) I_law_is_int.body :=
(sss_cons (ss_ret (se_and (isi_se .int (se_var 0)) (se_one (se_not (isi_se .bool (se_var 0))))))
sss_nil)
theorem s_law_is_int : FnScope n_law_is_int ["_law_thing"] (defScope (top 21)) := ⟨rfl, rfl, rfl, by decide +kernel, rfl, by decide +kernel, by decide +kernel⟩
def n_law_same : List Str := ["_law_mine", "_law_due", "_law_k"]
abbrev g_law_same (K : PySem.W.Frag) (cl : Cl) : Gam := { N := n_law_same, sc := defScope (top 22), K := K, cl := cl, fs := ["_law_same", "_law_is_int"], bs := ["range", "len", "isinstance", "tuple", "list", "str", "int", "bool"], xs := [], es := es, hs := [], hot := false, ks := ks, ts := ts, gs := gs, df := df, gn := [], kd := kd, lx := [], lm := false, io := none, fr := false, fi := [], ff := [] }
theorem d_law_same (K : PySem.W.Frag) (cl : Cl) : SSs (g_law_same K cl) (defBody (top 22)) I_law_same.body :=
(sss_cons (ss_iff (cmp_st cIs (se_var 1) se_non rfl)
(sss_cons (ss_ret (cmp_se cIs (se_var 0) se_non rfl))
sss_nil)
sss_nil)
(sss_cons (ss_iff (st_se (isi_se .bool (se_var 1)))
(sss_cons (ss_ret (se_and (isi_se .bool (se_var 0)) (se_one (cmp_se cEq (se_var 0) (se_var 1) rfl))))
sss_nil)
sss_nil)
(sss_cons (ss_iff (st_se (isi_se .int (se_var 1)))
(sss_cons (ss_ret (se_and (call_se (sg_cons (se_var 0) sg_nil)) (se_one (cmp_se cEq (se_var 0) (se_var 1) rfl))))
sss_nil)
sss_nil)
(sss_cons (ss_iff (st_se (isi_se .str (se_var 1)))
(sss_cons (ss_ret (se_and (isi_se .str (se_var 0)) (se_one (cmp_se cEq (se_var 0) (se_var 1) rfl))))
sss_nil)
sss_nil)
(sss_cons (ss_iff (st_sw (sw_and (st_se (isi_se .list (se_var 1))) (sw_and1 (st_not (st_se (isi_se .list (se_var 0)))))))
(sss_cons (ss_ret se_bl)
sss_nil)
sss_nil)
(sss_cons (ss_iff (st_sw (sw_and (st_se (isi_se .tuple (se_var 1))) (sw_and1 (st_not (st_se (isi_se .tuple (se_var 0)))))))
(sss_cons (ss_ret se_bl)
sss_nil)
sss_nil)
(sss_cons (ss_iff (cmp_st cNe (len_se (se_var 0)) (len_se (se_var 1)) rfl)
(sss_cons (ss_ret se_bl)
sss_nil)
sss_nil)
(sss_cons (ss_for (si_rng1 (len_se (se_var 1))) (tg_one 2)
(sss_cons (ss_iff (st_not (st_se (call_se (sg_cons (ix_se (se_var 0) (se_var 2)) (sg_cons (ix_se (se_var 1) (se_var 2)) sg_nil)))))
(sss_cons (ss_ret se_bl)
sss_nil)
sss_nil)
sss_nil))
(sss_cons (ss_ret se_bl)
sss_nil)))))))))
theorem s_law_same : FnScope n_law_same ["_law_mine", "_law_due"] (defScope (top 22)) := ⟨rfl, rfl, rfl, by decide +kernel, rfl, by decide +kernel, by decide +kernel⟩
def n_law_signs : List Str := ["_law_signs_here"]
abbrev g_law_signs (K : PySem.W.Frag) (cl : Cl) : Gam := { N := n_law_signs, sc := defScope (top 23), K := K, cl := cl, fs := [], bs := [], xs := [], es := es, hs := [], hot := false, ks := ks, ts := ts, gs := gs, df := df, gn := [], kd := kd, lx := [], lm := false, io := none, fr := false, fi := [], ff := [] }
theorem d_law_signs (K : PySem.W.Frag) (cl : Cl) : SSs (g_law_signs K cl) (defBody (top 23)) I_law_signs.body :=
(sss_cons (ss_set 0 se_str)
(sss_cons (ss_ret (bin_add (se_var 0) se_str))
sss_nil))
theorem s_law_signs : FnScope n_law_signs [] (defScope (top 23)) := ⟨rfl, rfl, rfl, by decide +kernel, rfl, by decide +kernel, by decide +kernel⟩
def n_law_near_kind : List Str := ["_law_pool_here", "_law_kind", "_law_way", "_law_at", "_law_signs_here", "_law_letters", "_law_text", "_law_k"]
abbrev g_law_near_kind (K : PySem.W.Frag) (cl : Cl) : Gam := { N := n_law_near_kind, sc := defScope (top 24), K := K, cl := cl, fs := ["_law_draw", "_law_word", "_law_signs", "_law_kinds"], bs := ["range", "len"], xs := [], es := es, hs := [], hot := false, ks := ks, ts := ts, gs := gs, df := df, gn := [], kd := kd, lx := [], lm := false, io := none, fr := false, fi := [], ff := [] }
theorem d_law_near_kind (K : PySem.W.Frag) (cl : Cl) : SSs (g_law_near_kind K cl) (defBody (top 24)) I_law_near_kind.body :=
(sss_cons (ss_set 1 (ix_se call0_se (call_se (sg_pool 0 (sg_cons se_int sg_nil)))))
(sss_cons (ss_set 2 (call_se (sg_pool 0 (sg_cons se_int sg_nil))))
(sss_cons (ss_set 3 (call_se (sg_pool 0 (sg_cons (len_se (se_var 1)) sg_nil))))
(sss_cons (ss_set 4 call0_se)
(sss_cons (ss_set 5 se_str)
(sss_cons (ss_iff (cmp_st cEq (se_var 2) se_int rfl)
(sss_cons (ss_ret (bin_add (sl_se (se_var 1) so_non (so_some (se_var 3))) (sl_se (se_var 1) (so_some (bin_add (se_var 3) se_int)) so_non)))
sss_nil)
sss_nil)
(sss_cons (ss_iff (cmp_st cEq (se_var 2) se_int rfl)
(sss_cons (ss_ret (bin_add (bin_add (sl_se (se_var 1) so_non (so_some (se_var 3))) (upper_se (ix_se (se_var 1) (se_var 3)))) (sl_se (se_var 1) (so_some (bin_add (se_var 3) se_int)) so_non)))
sss_nil)
sss_nil)
(sss_cons (ss_iff (cmp_st cEq (se_var 2) se_int rfl)
(sss_cons (ss_ret (bin_add (bin_add (sl_se (se_var 1) so_non (so_some (se_var 3))) (ix_se (se_var 4) (call_se (sg_pool 0 (sg_cons (len_se (se_var 4)) sg_nil))))) (sl_se (se_var 1) (so_some (se_var 3)) so_non)))
sss_nil)
sss_nil)
(sss_cons (ss_iff (cmp_st cEq (se_var 2) se_int rfl)
(sss_cons (ss_ret (call_se (sg_pool 0 (sg_cons (se_var 5) (sg_cons (se_var 5) (sg_cons (call_se (sg_pool 0 (sg_cons se_int sg_nil))) sg_nil))))))
sss_nil)
sss_nil)
(sss_cons (ss_set 6 se_str)
(sss_cons (ss_for (si_rng1 (call_se (sg_pool 0 (sg_cons se_int sg_nil)))) (tg_one 7)
(sss_cons (ss_set 6 (bin_add (se_var 6) (ix_se (se_var 4) (call_se (sg_pool 0 (sg_cons (len_se (se_var 4)) sg_nil))))))
sss_nil))
(sss_cons (ss_ret (se_var 6))
sss_nil))))))))))))
theorem s_law_near_kind : FnScope n_law_near_kind ["_law_pool_here"] (defScope (top 24)) := ⟨rfl, rfl, rfl, by decide +kernel, rfl, by decide +kernel, by decide +kernel⟩
def n_law_answer : List Str := ["_law_way", "_law_kind", "_law_other"]
abbrev g_law_answer (K : PySem.W.Frag) (cl : Cl) : Gam := { N := n_law_answer, sc := defScope (top 25), K := K, cl := cl, fs := ["at_odds", "join", "meet", "under"], bs := [], xs := ["at_odds", "join", "meet", "under"], es := es, hs := [], hot := false, ks := ks, ts := ts, gs := gs, df := df, gn := [], kd := kd, lx := [], lm := false, io := none, fr := false, fi := [], ff := [] }
theorem d_law_answer (K : PySem.W.Frag) (cl : Cl) : SSs (g_law_answer K cl) (defBody (top 25)) I_law_answer.body :=
(sss_cons (ss_iff (cmp_st cEq (se_var 0) se_int rfl)
(sss_cons (ss_ret (call_se (sg_cons (se_var 1) (sg_cons (se_var 2) sg_nil))))
sss_nil)
sss_nil)
(sss_cons (ss_iff (cmp_st cEq (se_var 0) se_int rfl)
(sss_cons (ss_ret (call_se (sg_cons (se_var 1) (sg_cons (se_var 2) sg_nil))))
sss_nil)
sss_nil)
(sss_cons (ss_iff (cmp_st cEq (se_var 0) se_int rfl)
(sss_cons (ss_ret (call_se (sg_cons (se_var 1) (sg_cons (se_var 2) sg_nil))))
sss_nil)
sss_nil)
(sss_cons (ss_ret (call_se (sg_cons (se_var 1) (sg_cons (se_var 2) sg_nil))))
sss_nil))))
theorem x_law_answer (K : PySem.W.Frag) (cl : Cl) : SSsX (g_law_answer K cl) (defBody (top 25)) I_law_answer.body :=
(sssx_cons (ssx_iff (cmp_st cEq (se_var 0) se_int rfl)
(sssx_cons (ssx_ret (sx_call (sg_cons (se_var 1) (sg_cons (se_var 2) sg_nil))))
sssx_nil)
sssx_nil)
(sssx_cons (ssx_iff (cmp_st cEq (se_var 0) se_int rfl)
(sssx_cons (ssx_ret (sx_call (sg_cons (se_var 1) (sg_cons (se_var 2) sg_nil))))
sssx_nil)
sssx_nil)
(sssx_cons (ssx_iff (cmp_st cEq (se_var 0) se_int rfl)
(sssx_cons (ssx_ret (sx_call (sg_cons (se_var 1) (sg_cons (se_var 2) sg_nil))))
sssx_nil)
sssx_nil)
(sssx_cons (ssx_ret (sx_call (sg_cons (se_var 1) (sg_cons (se_var 2) sg_nil))))
sssx_nil))))
theorem s_law_answer : FnScope n_law_answer ["_law_way", "_law_kind", "_law_other"] (defScope (top 25)) := ⟨rfl, rfl, rfl, by decide +kernel, rfl, by decide +kernel, by decide +kernel⟩
def n_law_refused : List Str := ["_law_way", "_law_kind", "_law_other", "_law_due", "e"]
abbrev g_law_refused (K : PySem.W.Frag) (cl : Cl) : Gam := { N := n_law_refused, sc := defScope (top 26), K := K, cl := cl, fs := ["_law_answer"], bs := ["isinstance"], xs := ["_law_answer"], es := es, hs := ["_law_same"], hot := false, ks := ks, ts := ts, gs := gs, df := df, gn := [], kd := kd, lx := [], lm := false, io := none, fr := false, fi := [], ff := [] }
theorem d_law_refused (K : PySem.W.Frag) (cl : Cl) : SSs (g_law_refused K cl) (defBody (top 26)) I_law_refused.body :=
(sss_cons (ss_tri 4 ["BadKind"] (sssx_cons (ssx_drop (sx_call (sg_cons (se_var 0) (sg_cons (se_var 1) (sg_cons (se_var 2) sg_nil)))))
sssx_nil)
(sss_cons (ss_iff (st_sw (sw_or (st_not (st_se (exi_se 4 ["BadKind"] ["BadKind"]))) (sw_or1 (st_se (exi_se 4 ["BadKind"] [])))))
(sss_cons (ss_ret se_bl)
sss_nil)
sss_nil)
(sss_cons (ss_ret (se_and (exi_se 4 ["BadKind"] ["BadKind"]) (se_one (callH_se (sg_cons (exf_se 4 ["BadKind"]) (sg_cons (se_var 3) sg_nil))))))
sss_nil)))
(sss_cons (ss_ret se_bl)
sss_nil))
theorem s_law_refused : FnScope n_law_refused ["_law_way", "_law_kind", "_law_other", "_law_due"] (defScope (top 26)) := ⟨rfl, rfl, rfl, by decide +kernel, rfl, by decide +kernel, by decide +kernel⟩
def n_law_refused_base : List Str := ["_law_way", "_law_kind", "_law_other", "e"]
abbrev g_law_refused_base (K : PySem.W.Frag) (cl : Cl) : Gam := { N := n_law_refused_base, sc := defScope (top 27), K := K, cl := cl, fs := ["_law_answer"], bs := ["isinstance"], xs := ["_law_answer"], es := es, hs := [], hot := false, ks := ks, ts := ts, gs := gs, df := df, gn := [], kd := kd, lx := [], lm := false, io := none, fr := false, fi := [], ff := [] }
theorem d_law_refused_base (K : PySem.W.Frag) (cl : Cl) : SSs (g_law_refused_base K cl) (defBody (top 27)) I_law_refused_base.body :=
(sss_cons (ss_tri 3 ["BadKind"] (sssx_cons (ssx_drop (sx_call (sg_cons (se_var 0) (sg_cons (se_var 1) (sg_cons (se_var 2) sg_nil)))))
sssx_nil)
(sss_cons (ss_ret (exi_se 3 ["BadKind"] ["BadKind"]))
sss_nil))
(sss_cons (ss_ret se_bl)
sss_nil))
theorem s_law_refused_base : FnScope n_law_refused_base ["_law_way", "_law_kind", "_law_other"] (defScope (top 27)) := ⟨rfl, rfl, rfl, by decide +kernel, rfl, by decide +kernel, by decide +kernel⟩
def n_law_bounds_told : List Str := ["_law_kind", "_law_other", "_law_lower", "_law_upper", "_law_both", "_law_bound", "_law_wide", "_law_above", "_law_atom"]
abbrev g_law_bounds_told (K : PySem.W.Frag) (cl : Cl) : Gam := { N := n_law_bounds_told, sc := defScope (top 28), K := K, cl := cl, fs := ["_law_kinds", "_law_under", "_law_atoms"], bs := ["all"], xs := [], es := es, hs := [], hot := false, ks := ks, ts := ts, gs := gs, df := df, gn := [], kd := kd, lx := [], lm := false, io := none, fr := false, fi := [], ff := [] }
theorem d_law_bounds_told (K : PySem.W.Frag) (cl : Cl) : SSs (g_law_bounds_told K cl) (defBody (top 28)) I_law_bounds_told.body :=
(sss_cons (ss_set 4 (bin_add (call_se (sg_cons (se_var 0) sg_nil)) (call_se (sg_cons (se_var 1) sg_nil))))
(sss_cons (ss_for (si_seq call0_se) (tg_one 5)
(sss_cons (ss_set 6 (call_se (sg_cons (se_var 5) sg_nil)))
(sss_cons (ss_set 7 (all_se (lc_se 8 (si_seq (se_var 4)) sts_nil (cmp_se cIn (se_var 8) (se_var 6) rfl))))
(sss_cons (ss_iff (st_sw (sw_and (cmp_st cEq (se_var 5) (se_var 3) rfl) (sw_and1 (st_not (st_se (se_var 7))))))
(sss_cons (ss_ret se_bl)
sss_nil)
sss_nil)
(sss_cons (ss_iff (st_sw (sw_and (st_se (se_var 7)) (sw_and1 (st_not (st_se (call_se (sg_cons (se_var 3) (sg_cons (se_var 5) sg_nil))))))))
(sss_cons (ss_ret se_bl)
sss_nil)
sss_nil)
(sss_cons (ss_iff (st_sw (sw_and (st_se (call_se (sg_cons (se_var 5) (sg_cons (se_var 0) sg_nil)))) (sw_and1 (st_se (call_se (sg_cons (se_var 5) (sg_cons (se_var 1) sg_nil)))))))
(sss_cons (ss_iff (st_sw (sw_or (cmp_st cIs (se_var 2) se_non rfl) (sw_or1 (st_not (st_se (call_se (sg_cons (se_var 5) (sg_cons (se_var 2) sg_nil))))))))
(sss_cons (ss_ret se_bl)
sss_nil)
sss_nil)
sss_nil)
sss_nil)
sss_nil))))))
(sss_cons (ss_ret se_bl)
sss_nil)))
theorem s_law_bounds_told : FnScope n_law_bounds_told ["_law_kind", "_law_other", "_law_lower", "_law_upper"] (defScope (top 28)) := ⟨rfl, rfl, rfl, by decide +kernel, rfl, by decide +kernel, by decide +kernel⟩
def n_law_pair_told : List Str := ["_law_kind", "_law_other", "_law_first", "_law_second", "_law_lies", "_law_atom", "_law_back", "_law_common", "_law_outside", "_law_lower", "_law_upper"]
abbrev g_law_pair_told (K : PySem.W.Frag) (cl : Cl) : Gam := { N := n_law_pair_told, sc := defScope (top 29), K := K, cl := cl, fs := ["_law_bounds_told", "_law_kinds", "join", "_law_atoms", "meet", "_law_same", "at_odds", "under"], bs := ["len", "range", "all"], xs := [], es := es, hs := [], hot := false, ks := ks, ts := ts, gs := gs, df := df, gn := [], kd := kd, lx := [], lm := false, io := none, fr := false, fi := [], ff := [] }
theorem d_law_pair_told (K : PySem.W.Frag) (cl : Cl) : SSs (g_law_pair_told K cl) (defBody (top 29)) I_law_pair_told.body :=
(sss_cons (ss_set 2 (call_se (sg_cons (se_var 0) sg_nil)))
(sss_cons (ss_set 3 (call_se (sg_cons (se_var 1) sg_nil)))
(sss_cons (ss_set 4 (all_se (lc_se 5 (si_seq (se_var 2)) sts_nil (cmp_se cIn (se_var 5) (se_var 3) rfl))))
(sss_cons (ss_set 6 (all_se (lc_se 5 (si_seq (se_var 3)) sts_nil (cmp_se cIn (se_var 5) (se_var 2) rfl))))
(sss_cons (ss_lc 7 5 (si_seq (se_var 2)) (sts_one (cmp_st cIn (se_var 5) (se_var 3) rfl)) (se_var 5))
(sss_cons (ss_lc 8 5 (si_rng1 se_int) (sts_one (cmp_st cNotIn (se_var 5) (bin_add (se_var 2) (se_var 3)) rfl)) (se_var 5))
(sss_cons (ss_iff (st_not (st_se (call_se (sg_cons (call_se (sg_cons (se_var 0) (sg_cons (se_var 1) sg_nil))) (sg_cons (se_var 4) sg_nil)))))
(sss_cons (ss_ret se_bl)
sss_nil)
sss_nil)
(sss_cons (ss_iff (st_not (st_se (call_se (sg_cons (call_se (sg_cons (se_var 0) (sg_cons (se_var 1) sg_nil))) (sg_cons (se_and (se_not (se_var 4)) (se_and (se_not (se_var 6)) (se_one (cmp_se cGt (len_se (se_var 8)) se_int rfl)))) sg_nil)))))
(sss_cons (ss_ret se_bl)
sss_nil)
sss_nil)
(sss_cons (ss_set 9 (call_se (sg_cons (se_var 0) (sg_cons (se_var 1) sg_nil))))
(sss_cons (ss_iff (cmp_st cIs (se_var 9) se_non rfl)
(sss_cons (ss_iff (cmp_st cGt (len_se (se_var 7)) se_int rfl)
(sss_cons (ss_ret se_bl)
sss_nil)
sss_nil)
sss_nil)
(sss_cons (ss_iff (st_sw (sw_or (cmp_st cNotIn (se_var 9) call0_se rfl) (sw_or1 (cmp_st cNe (call_se (sg_cons (se_var 9) sg_nil)) (se_var 7) rfl))))
(sss_cons (ss_ret se_bl)
sss_nil)
sss_nil)
sss_nil))
(sss_cons (ss_set 10 (call_se (sg_cons (se_var 0) (sg_cons (se_var 1) sg_nil))))
(sss_cons (ss_iff (cmp_st cNotIn (se_var 10) call0_se rfl)
(sss_cons (ss_ret se_bl)
sss_nil)
sss_nil)
(sss_cons (ss_ret (call_se (sg_cons (se_var 0) (sg_cons (se_var 1) (sg_cons (se_var 9) (sg_cons (se_var 10) sg_nil))))))
sss_nil)))))))))))))
theorem s_law_pair_told : FnScope n_law_pair_told ["_law_kind", "_law_other"] (defScope (top 29)) := ⟨rfl, rfl, rfl, by decide +kernel, rfl, by decide +kernel, by decide +kernel⟩
abbrev gh_law_same (K : PySem.W.Frag) (cl : Cl) : Gam := { N := n_law_same, sc := defScope (top 22), K := K, cl := cl, fs := [], bs := ["len", "isinstance", "tuple", "list", "str", "int", "bool"], xs := [], es := es, hs := ["_law_is_int"], hot := true, ks := ks, ts := ts, gs := gs, df := df, gn := [], kd := kd, lx := [], lm := false, io := none, fr := false, fi := [], ff := [] }
theorem h_law_same (K : PySem.W.Frag) (cl : Cl) : SSs (gh_law_same K cl) (defBody (top 22)) H_law_same.body :=
(sss_cons (ss_iff (cmp_st cIs (se_var 1) se_non rfl)
(sss_cons (ss_ret (cmp_se cIs (se_var 0) se_non rfl))
sss_nil)
sss_nil)
(sss_cons (ss_iff (st_se (isi_se .bool (se_var 1)))
(sss_cons (ss_ret (se_and (isi_se .bool (se_var 0)) (se_one (cmp_se cEq (se_var 0) (se_var 1) rfl))))
sss_nil)
sss_nil)
(sss_cons (ss_iff (st_se (isi_se .int (se_var 1)))
(sss_cons (ss_ret (se_and (callH_se (sg_cons (se_var 0) sg_nil)) (se_one (cmp_se cEq (se_var 0) (se_var 1) rfl))))
sss_nil)
sss_nil)
(sss_cons (ss_iff (st_se (isi_se .str (se_var 1)))
(sss_cons (ss_ret (se_and (isi_se .str (se_var 0)) (se_one (cmp_se cEq (se_var 0) (se_var 1) rfl))))
sss_nil)
sss_nil)
(sss_cons (ss_iff (st_sw (sw_and (st_se (isi_se .list (se_var 1))) (sw_and1 (st_not (st_se (isi_se .list (se_var 0)))))))
(sss_cons (ss_ret se_bl)
sss_nil)
sss_nil)
(sss_cons (ss_iff (st_sw (sw_and (st_se (isi_se .tuple (se_var 1))) (sw_and1 (st_not (st_se (isi_se .tuple (se_var 0)))))))
(sss_cons (ss_ret se_bl)
sss_nil)
sss_nil)
(sss_cons (ss_iff (cmp_st cNe (len_se (se_var 0)) (len_se (se_var 1)) rfl)
(sss_cons (ss_ret se_bl)
sss_nil)
sss_nil)
(sss_cons ss_stop
(sss_cons (ss_ret se_bl)
sss_nil)))))))))
abbrev gh_law_is_int (K : PySem.W.Frag) (cl : Cl) : Gam := { N := n_law_is_int, sc := defScope (top 21), K := K, cl := cl, fs := [], bs := ["isinstance", "int", "bool"], xs := [], es := es, hs := [], hot := true, ks := ks, ts := ts, gs := gs, df := df, gn := [], kd := kd, lx := [], lm := false, io := none, fr := false, fi := [], ff := [] }
theorem h_law_is_int (K : PySem.W.Frag) (cl : Cl) : SSs (gh_law_is_int K cl) (defBody (top 21)) H_law_is_int.body :=
(sss_cons (ss_ret (se_and (isi_se .int (se_var 0)) (se_one (se_not (isi_se .bool (se_var 0))))))
sss_nil)
def n_law : List Str := ["_law_script", "_law_pool_here", "_law_kinds_here", "_law_turn", "_law_shift", "_law_k", "_law_n", "_law_good", "_law_texts", "_law_bad", "_law_text", "_law_way"]
abbrev g_law (K : PySem.W.Frag) (cl : Cl) : Gam := { N := n_law, sc := defScope (top 30), K := K, cl := cl, fs := ["_law_pair_told", "_law_refused_base", "_law_refused", "_law_near_kind", "_law_draw", "_law_kinds"], bs := ["range", "int"], xs := [], es := es, hs := [], hot := false, ks := ks, ts := ts, gs := gs, df := df, gn := [], kd := kd, lx := [], lm := false, io := none, fr := false, fi := [], ff := [] }
theorem d_law (K : PySem.W.Frag) (cl : Cl) : SSs (g_law K cl) (defBody (top 30)).tail I_law.body :=
(sss_cons (ss_set 2 call0_se)
(sss_cons (ss_set 3 (call_se (sg_pool 1 (sg_cons se_int sg_nil))))
(sss_cons (ss_set 4 (call_se (sg_pool 1 (sg_cons se_int sg_nil))))
(sss_cons (ss_for (si_rng1 se_int) (tg_one 5)
(sss_cons (ss_for (si_rng1 se_int) (tg_one 6)
(sss_cons (ss_iff (st_not (st_se (call_se (sg_cons (ix_se (se_var 2) (bin_mod (int_se (bin_add (se_var 5) (se_var 3))) se_int)) (sg_cons (ix_se (se_var 2) (bin_mod (int_se (bin_add (se_var 6) (se_var 4))) se_int)) sg_nil)))))
(sss_cons (ss_ret se_bl)
sss_nil)
sss_nil)
sss_nil))
sss_nil))
(sss_cons (ss_set 7 (ix_se (se_var 2) (call_se (sg_pool 1 (sg_cons se_int sg_nil)))))
(sss_cons (ss_set 8 (lst_se (sa_cons (call_se (sg_pool 1 sg_nil)) (sa_cons (call_se (sg_pool 1 sg_nil)) (sa_cons se_str (sa_cons se_str (sa_cons se_str sa_nil)))))))
(sss_cons (ss_lc 9 10 (si_seq (se_var 8)) (sts_one (cmp_st cNotIn (se_var 10) (se_var 2) rfl)) (se_var 10))
(sss_cons (ss_for (si_rng1 se_int) (tg_one 11)
(sss_cons (ss_for (si_seq (se_var 9)) (tg_one 10)
(sss_cons (ss_iff (st_sw (sw_or (st_not (st_se (call_se (sg_cons (se_var 11) (sg_cons (se_var 10) (sg_cons (se_var 7) (sg_cons (se_var 10) sg_nil))))))) (sw_or1 (st_not (st_se (call_se (sg_cons (se_var 11) (sg_cons (se_var 7) (sg_cons (se_var 10) (sg_cons (se_var 10) sg_nil))))))))))
(sss_cons (ss_ret se_bl)
sss_nil)
sss_nil)
(sss_cons (ss_iff (st_sw (sw_or (st_not (st_se (call_se (sg_cons (se_var 11) (sg_cons (se_var 10) (sg_cons se_str (sg_cons (se_var 10) sg_nil))))))) (sw_or1 (st_not (st_se (call_se (sg_cons (se_var 11) (sg_cons se_str (sg_cons (se_var 10) (sg_cons se_str sg_nil))))))))))
(sss_cons (ss_ret se_bl)
sss_nil)
sss_nil)
(sss_cons (ss_iff (st_not (st_se (call_se (sg_cons (se_var 11) (sg_cons (se_var 7) (sg_cons (se_var 10) sg_nil))))))
(sss_cons (ss_ret se_bl)
sss_nil)
sss_nil)
sss_nil))))
sss_nil))
(sss_cons (ss_ret (se_and (call_se (sg_cons (se_var 7) (sg_cons (ix_se (se_var 2) (se_var 4)) sg_nil))) (se_one (call_se (sg_cons (ix_se (se_var 2) (se_var 4)) (sg_cons (se_var 7) sg_nil))))))
sss_nil)))))))))
theorem s_law : FnScope n_law ["_law_script"] (defScope (top 30)) := ⟨rfl, rfl, rfl, by decide +kernel, rfl, by decide +kernel, by decide +kernel⟩
end K02

set_option Elab.async false
set_option linter.all false
set_option maxRecDepth 100000
set_option maxHeartbeats 4000000
namespace K02
open PySem Ip
/-! The defs by their names, to a depth of calls. -/
def tb : Nat → Cl
  | 0 => noCl
  | n + 1 => fun f as st =>
    if f = "atoms_of" then runI 1 (tb n) I_atoms_of as st else
    if f = "under" then runI 2 (tb n) I_under as st else
    if f = "meet" then runI 2 (tb n) I_meet as st else
    if f = "join" then runI 2 (tb n) I_join as st else
    if f = "at_odds" then runI 2 (tb n) I_at_odds as st else
    if f = "_least_with" then runI 1 (tb n) I_least_with as st else
    if f = "_law_mixed" then runI 3 (tb n) I_law_mixed as st else
    if f = "_law_draw" then runI 2 (tb n) I_law_draw as st else
    if f = "_law_kinds" then runI 0 (tb n) I_law_kinds as st else
    if f = "_law_atoms" then runI 1 (tb n) I_law_atoms as st else
    if f = "_law_under" then runI 2 (tb n) I_law_under as st else
    if f = "_law_word" then runI 4 (tb n) I_law_word as st else
    if f = "_law_is_int" then runI 1 (tb n) I_law_is_int as st else
    if f = "_law_same" then runI 2 (tb n) I_law_same as st else
    if f = "_law_signs" then runI 0 (tb n) I_law_signs as st else
    if f = "_law_near_kind" then runI 1 (tb n) I_law_near_kind as st else
    if f = "_law_answer" then runI 3 (tb n) I_law_answer as st else
    if f = "_law_refused" then runI 4 (tb n) I_law_refused as st else
    if f = "_law_refused_base" then runI 3 (tb n) I_law_refused_base as st else
    if f = "_law_bounds_told" then runI 4 (tb n) I_law_bounds_told as st else
    if f = "_law_pair_told" then runI 2 (tb n) I_law_pair_told as st else
    if f = bang "atoms_of" then runX 1 (tb n) I_atoms_of as st else
    if f = bang "under" then runX 2 (tb n) I_under as st else
    if f = bang "meet" then runX 2 (tb n) I_meet as st else
    if f = bang "join" then runX 2 (tb n) I_join as st else
    if f = bang "at_odds" then runX 2 (tb n) I_at_odds as st else
    if f = bang "_law_answer" then runX 3 (tb n) I_law_answer as st else
    if f = hotN "_law_same" then runI 2 (tb n) H_law_same as st else
    if f = hotN "_law_is_int" then runI 1 (tb n) H_law_is_int as st else
    none
theorem tb_atoms_of (n : Nat) (as : List (Option PyData)) (st : Pl) : tb (n + 1) "atoms_of" as st = runI 1 (tb n) I_atoms_of as st := by rfl
theorem tb_under (n : Nat) (as : List (Option PyData)) (st : Pl) : tb (n + 1) "under" as st = runI 2 (tb n) I_under as st := by rfl
theorem tb_meet (n : Nat) (as : List (Option PyData)) (st : Pl) : tb (n + 1) "meet" as st = runI 2 (tb n) I_meet as st := by rfl
theorem tb_join (n : Nat) (as : List (Option PyData)) (st : Pl) : tb (n + 1) "join" as st = runI 2 (tb n) I_join as st := by rfl
theorem tb_at_odds (n : Nat) (as : List (Option PyData)) (st : Pl) : tb (n + 1) "at_odds" as st = runI 2 (tb n) I_at_odds as st := by rfl
theorem tb_least_with (n : Nat) (as : List (Option PyData)) (st : Pl) : tb (n + 1) "_least_with" as st = runI 1 (tb n) I_least_with as st := by rfl
theorem tb_law_mixed (n : Nat) (as : List (Option PyData)) (st : Pl) : tb (n + 1) "_law_mixed" as st = runI 3 (tb n) I_law_mixed as st := by rfl
theorem tb_law_draw (n : Nat) (as : List (Option PyData)) (st : Pl) : tb (n + 1) "_law_draw" as st = runI 2 (tb n) I_law_draw as st := by rfl
theorem tb_law_kinds (n : Nat) (as : List (Option PyData)) (st : Pl) : tb (n + 1) "_law_kinds" as st = runI 0 (tb n) I_law_kinds as st := by rfl
theorem tb_law_atoms (n : Nat) (as : List (Option PyData)) (st : Pl) : tb (n + 1) "_law_atoms" as st = runI 1 (tb n) I_law_atoms as st := by rfl
theorem tb_law_under (n : Nat) (as : List (Option PyData)) (st : Pl) : tb (n + 1) "_law_under" as st = runI 2 (tb n) I_law_under as st := by rfl
theorem tb_law_word (n : Nat) (as : List (Option PyData)) (st : Pl) : tb (n + 1) "_law_word" as st = runI 4 (tb n) I_law_word as st := by rfl
theorem tb_law_is_int (n : Nat) (as : List (Option PyData)) (st : Pl) : tb (n + 1) "_law_is_int" as st = runI 1 (tb n) I_law_is_int as st := by rfl
theorem tb_law_same (n : Nat) (as : List (Option PyData)) (st : Pl) : tb (n + 1) "_law_same" as st = runI 2 (tb n) I_law_same as st := by rfl
theorem tb_law_signs (n : Nat) (as : List (Option PyData)) (st : Pl) : tb (n + 1) "_law_signs" as st = runI 0 (tb n) I_law_signs as st := by rfl
theorem tb_law_near_kind (n : Nat) (as : List (Option PyData)) (st : Pl) : tb (n + 1) "_law_near_kind" as st = runI 1 (tb n) I_law_near_kind as st := by rfl
theorem tb_law_answer (n : Nat) (as : List (Option PyData)) (st : Pl) : tb (n + 1) "_law_answer" as st = runI 3 (tb n) I_law_answer as st := by rfl
theorem tb_law_refused (n : Nat) (as : List (Option PyData)) (st : Pl) : tb (n + 1) "_law_refused" as st = runI 4 (tb n) I_law_refused as st := by rfl
theorem tb_law_refused_base (n : Nat) (as : List (Option PyData)) (st : Pl) : tb (n + 1) "_law_refused_base" as st = runI 3 (tb n) I_law_refused_base as st := by rfl
theorem tb_law_bounds_told (n : Nat) (as : List (Option PyData)) (st : Pl) : tb (n + 1) "_law_bounds_told" as st = runI 4 (tb n) I_law_bounds_told as st := by rfl
theorem tb_law_pair_told (n : Nat) (as : List (Option PyData)) (st : Pl) : tb (n + 1) "_law_pair_told" as st = runI 2 (tb n) I_law_pair_told as st := by rfl
theorem tbx_atoms_of (n : Nat) (as : List (Option PyData)) (st : Pl) : tb (n + 1) (bang "atoms_of") as st = runX 1 (tb n) I_atoms_of as st := by rfl
theorem tbx_under (n : Nat) (as : List (Option PyData)) (st : Pl) : tb (n + 1) (bang "under") as st = runX 2 (tb n) I_under as st := by rfl
theorem tbx_meet (n : Nat) (as : List (Option PyData)) (st : Pl) : tb (n + 1) (bang "meet") as st = runX 2 (tb n) I_meet as st := by rfl
theorem tbx_join (n : Nat) (as : List (Option PyData)) (st : Pl) : tb (n + 1) (bang "join") as st = runX 2 (tb n) I_join as st := by rfl
theorem tbx_at_odds (n : Nat) (as : List (Option PyData)) (st : Pl) : tb (n + 1) (bang "at_odds") as st = runX 2 (tb n) I_at_odds as st := by rfl
theorem tbx_law_answer (n : Nat) (as : List (Option PyData)) (st : Pl) : tb (n + 1) (bang "_law_answer") as st = runX 3 (tb n) I_law_answer as st := by rfl
theorem tbh_law_same (n : Nat) (as : List (Option PyData)) (st : Pl) : tb (n + 1) (hotN "_law_same") as st = runI 2 (tb n) H_law_same as st := by rfl
theorem tbh_law_is_int (n : Nat) (as : List (Option PyData)) (st : Pl) : tb (n + 1) (hotN "_law_is_int") as st = runI 1 (tb n) H_law_is_int as st := by rfl
end K02

set_option Elab.async false
set_option linter.all false
set_option maxRecDepth 100000
set_option maxHeartbeats 4000000
namespace K02
open PySem Ip Cm
/-! ### what is refused -/
def AnsX (cl : Cl) : Prop := ∀ (i : Int) k o st, 0 ≤ i → i < 4 → Bad k o → cl (bang "_law_answer") [some (.int i), some (.str k), some (.str o)] st = some (erD ("BadKind", .str (fbd k o)), st)
def AnsN (cl : Cl) : Prop := ∀ (i : Int) k o st, 0 ≤ i → i < 4 → Bad k o → cl "_law_answer" [some (.int i), some (.str k), some (.str o)] st = none
theorem four {i : Int} (h0 : 0 ≤ i) (h1 : i < 4) : i = 0 ∨ i = 1 ∨ i = 2 ∨ i = 3 := by omega
theorem ans_x {cl : Cl} (h1 : RaisesX cl "under") (h2 : RaisesX cl "meet") (h3 : RaisesX cl "join") (h4 : RaisesX cl "at_odds") (i : Int) (k o : Str) (st : Pl) (i0 : 0 ≤ i) (i1 : i < 4) (b : Bad k o) : runX 3 cl I_law_answer [some (.int i), some (.str k), some (.str o)] st = some (erD ("BadKind", .str (fbd k o)), st) := by
  rcases four i0 i1 with rfl | rfl | rfl | rfl
  · simp [runX, I_law_answer, slOf, cmpD, eqD, Cst.d, h1 k o st b, erD, erOf]
  · simp [runX, I_law_answer, slOf, cmpD, eqD, Cst.d, h2 k o st b, erD, erOf]
  · simp [runX, I_law_answer, slOf, cmpD, eqD, Cst.d, h3 k o st b, erD, erOf]
  · simp [runX, I_law_answer, slOf, cmpD, eqD, Cst.d, h4 k o st b, erD, erOf]
theorem ans_n {cl : Cl} (h1 : RaisesN cl "under") (h2 : RaisesN cl "meet") (h3 : RaisesN cl "join") (h4 : RaisesN cl "at_odds") (i : Int) (k o : Str) (st : Pl) (i0 : 0 ≤ i) (i1 : i < 4) (b : Bad k o) : runI 3 cl I_law_answer [some (.int i), some (.str k), some (.str o)] st = none := by
  rcases four i0 i1 with rfl | rfl | rfl | rfl
  · simp [runI, runF, I_law_answer, slOf, cmpD, eqD, Cst.d, h1 k o st b]
  · simp [runI, runF, I_law_answer, slOf, cmpD, eqD, Cst.d, h2 k o st b]
  · simp [runI, runF, I_law_answer, slOf, cmpD, eqD, Cst.d, h3 k o st b]
  · simp [runI, runF, I_law_answer, slOf, cmpD, eqD, Cst.d, h4 k o st b]
def RefOk (cl : Cl) : Prop := ∀ (i : Int) k o st, 0 ≤ i → i < 4 → Bad k o → cl "_law_refused" [some (.int i), some (.str k), some (.str o), some (.str (fbd k o))] st = some (.bool true, st)
def BaseOk (cl : Cl) : Prop := ∀ (i : Int) k o st, 0 ≤ i → i < 4 → Bad k o → cl "_law_refused_base" [some (.int i), some (.str k), some (.str o)] st = some (.bool true, st)
theorem ref_run {cl : Cl} (hx : AnsX cl) (hn : AnsN cl) (hs : SmH cl) (i : Int) (k o : Str) (st : Pl) (i0 : 0 ≤ i) (i1 : i < 4) (b : Bad k o) : runI 4 cl I_law_refused [some (.int i), some (.str k), some (.str o), some (.str (fbd k o))] st = some (.bool true, st) := by
  have e1 := hx i k o st i0 i1 b
  have e2 := hn i k o st i0 i1 b
  generalize fbd k o = z at *
  simp [runI, runF, I_law_refused, slOf, e1, e2, erD, erOf, hs z st, Out.un]
theorem base_run {cl : Cl} (hx : AnsX cl) (hn : AnsN cl) (i : Int) (k o : Str) (st : Pl) (i0 : 0 ≤ i) (i1 : i < 4) (b : Bad k o) : runI 3 cl I_law_refused_base [some (.int i), some (.str k), some (.str o)] st = some (.bool true, st) := by
  have e1 := hx i k o st i0 i1 b
  have e2 := hn i k o st i0 i1 b
  simp [runI, runF, I_law_refused_base, slOf, e1, e2, erD, erOf, Out.un]
/-! ### at a depth -/
theorem pre {c : Nat} {P : Nat → Prop} (h : ∀ m, c ≤ m → P (m + 1)) : ∀ m, c + 1 ≤ m → P m := fun m hm => by
  obtain ⟨k, rfl⟩ : ∃ k, m = k + 1 := ⟨m - 1, by omega⟩
  exact h k (by omega)
theorem t_mixed : ∀ m, 1 ≤ m → MixedOk (tb m) := pre (c := 0) fun m _ c t lim st h0 h1 h2 h3 h4 => by
  obtain ⟨r, e, q⟩ := mixed_run (tb m) c t lim st h0 h1 h2 h3 h4
  exact ⟨r, (tb_law_mixed m _ st).trans e, q⟩
theorem t_draw : ∀ m, 2 ≤ m → DrawOk (tb m) := pre (c := 1) fun m hm _ lim st h h0 h1 => by
  obtain ⟨r, s, e, q⟩ := draw_run (t_mixed m hm) lim st h h0 h1
  exact ⟨r, s, (tb_law_draw m _ st).trans e, q⟩
theorem t_word : ∀ m, 3 ≤ m → WordOk (tb m) := pre (c := 2) fun m hm _ a b n st h a1 a2 b1 b2 m0 m1 => by
  obtain ⟨w, s, e, q⟩ := word_run (t_draw m hm) a b n st h a1 a2 b1 b2 m0 m1
  exact ⟨w, s, (tb_law_word m _ st).trans e, q⟩
theorem t_kinds : ∀ m, 1 ≤ m → KindsOk (tb m) := pre (c := 0) fun m _ st => (tb_law_kinds m _ st).trans (kinds_run (tb m) st)
theorem t_int : ∀ m, 1 ≤ m → IsIntOk (tb m) := pre (c := 0) fun m _ d st h => (tb_law_is_int m _ st).trans (is_int_run (tb m) d st h)
theorem t_sm : ∀ m, 2 ≤ m → SmOk (tb m) := pre (c := 1) fun m hm d st h => (tb_law_same m _ st).trans (same_scal (t_int m hm) d st h)
theorem t_smh : ∀ m, 1 ≤ m → SmH (tb m) := pre (c := 0) fun m _ s st => (tbh_law_same m _ st).trans (smh_run (tb m) s st)
theorem t_atoms : ∀ m, 1 ≤ m → AtomsOk (tb m) := pre (c := 0) fun m _ s st h => (tb_atoms_of m _ st).trans (atoms_run (tb m) s st h)
theorem t_atomsx : ∀ m, 1 ≤ m → AtomsX (tb m) := pre (c := 0) fun m _ s st h hl => (tbx_atoms_of m _ st).trans (atoms_x (tb m) s st h hl)
theorem t_atomsn : ∀ m, 1 ≤ m → AtomsN (tb m) := pre (c := 0) fun m _ s st h => (tb_atoms_of m _ st).trans (atoms_n (tb m) s st h)
theorem t_atomsz : ∀ m, 1 ≤ m → AtomsXN (tb m) := pre (c := 0) fun m _ s st h => (tbx_atoms_of m _ st).trans (atoms_xn (tb m) s st h)
theorem t_latoms : ∀ m, 1 ≤ m → LatomsOk (tb m) := pre (c := 0) fun m _ s st h => (tb_law_atoms m _ st).trans (latoms_run (tb m) s st h)
theorem t_und : ∀ m, 2 ≤ m → UndOk (tb m) := pre (c := 1) fun m hm k o st h1 h2 => (tb_under m _ st).trans (und_run (t_atoms m hm) k o st h1 h2)
theorem t_lund : ∀ m, 2 ≤ m → LundOk (tb m) := pre (c := 1) fun m hm k o st h1 h2 => (tb_law_under m _ st).trans (lund_run (t_latoms m hm) k o st h1 h2)
theorem t_lwith : ∀ m, 2 ≤ m → LwithOk (tb m) := pre (c := 1) fun m hm as d st h1 h2 h3 => (tb_least_with m _ st).trans (lwith_run (t_atoms m hm) as d st h1 h2 h3)
theorem t_meet : ∀ m, 2 ≤ m → MeetOk (tb m) := pre (c := 1) fun m hm k o st h1 h2 => (tb_meet m _ st).trans (meet_run (t_atoms m hm) k o st h1 h2)
theorem t_join : ∀ m, 3 ≤ m → JoinOk (tb m) := pre (c := 2) fun m hm k o st h1 h2 => (tb_join m _ st).trans (join_run (t_atoms m (by omega)) (t_lwith m hm) k o st h1 h2)
theorem t_odds : ∀ m, 3 ≤ m → OddsOk (tb m) := pre (c := 2) fun m hm k o st h1 h2 => (tb_at_odds m _ st).trans (odds_run (t_atoms m (by omega)) (t_und m hm) k o st h1 h2)
theorem t_bnd : ∀ m, 3 ≤ m → BndOk (tb m) := pre (c := 2) fun m hm k o st h1 h2 => (tb_law_bounds_told m _ st).trans (bnd_run (t_kinds m (by omega)) (t_latoms m (by omega)) (t_lund m hm) k o st h1 h2)
theorem t_pair : ∀ m, 4 ≤ m → PairOk (tb m) := pre (c := 3) fun m hm k o st h1 h2 => (tb_law_pair_told m _ st).trans (pair_run (t_kinds m (by omega)) (t_latoms m (by omega)) (t_sm m (by omega)) (t_und m (by omega)) (t_odds m hm) (t_meet m (by omega)) (t_join m hm) (t_bnd m hm) k o st h1 h2)
theorem t_ux : ∀ m, 2 ≤ m → RaisesX (tb m) "under" := pre (c := 1) fun m hm k o st b => (tbx_under m _ st).trans (und_x (t_atoms m hm) (t_atomsx m hm) (t_atomsn m hm) (t_atomsz m hm) st b)
theorem t_mx : ∀ m, 2 ≤ m → RaisesX (tb m) "meet" := pre (c := 1) fun m hm k o st b => (tbx_meet m _ st).trans (meet_x (t_atoms m hm) (t_atomsx m hm) (t_atomsn m hm) (t_atomsz m hm) st b)
theorem t_jx : ∀ m, 2 ≤ m → RaisesX (tb m) "join" := pre (c := 1) fun m hm k o st b => (tbx_join m _ st).trans (join_x (t_atoms m hm) (t_atomsx m hm) (t_atomsn m hm) (t_atomsz m hm) st b)
theorem t_ox : ∀ m, 2 ≤ m → RaisesX (tb m) "at_odds" := pre (c := 1) fun m hm k o st b => (tbx_at_odds m _ st).trans (odds_x (t_atoms m hm) (t_atomsx m hm) (t_atomsn m hm) (t_atomsz m hm) st b)
theorem t_un : ∀ m, 2 ≤ m → RaisesN (tb m) "under" := pre (c := 1) fun m hm k o st b => (tb_under m _ st).trans (und_n (t_atoms m hm) (t_atomsx m hm) (t_atomsn m hm) (t_atomsz m hm) st b)
theorem t_mn : ∀ m, 2 ≤ m → RaisesN (tb m) "meet" := pre (c := 1) fun m hm k o st b => (tb_meet m _ st).trans (meet_n (t_atoms m hm) (t_atomsx m hm) (t_atomsn m hm) (t_atomsz m hm) st b)
theorem t_jn : ∀ m, 2 ≤ m → RaisesN (tb m) "join" := pre (c := 1) fun m hm k o st b => (tb_join m _ st).trans (join_n (t_atoms m hm) (t_atomsx m hm) (t_atomsn m hm) (t_atomsz m hm) st b)
theorem t_on : ∀ m, 2 ≤ m → RaisesN (tb m) "at_odds" := pre (c := 1) fun m hm k o st b => (tb_at_odds m _ st).trans (odds_n (t_atoms m hm) (t_atomsx m hm) (t_atomsn m hm) (t_atomsz m hm) st b)
theorem t_ax : ∀ m, 3 ≤ m → AnsX (tb m) := pre (c := 2) fun m hm i k o st i0 i1 b => (tbx_law_answer m _ st).trans (ans_x (t_ux m hm) (t_mx m hm) (t_jx m hm) (t_ox m hm) i k o st i0 i1 b)
theorem t_an : ∀ m, 3 ≤ m → AnsN (tb m) := pre (c := 2) fun m hm i k o st i0 i1 b => (tb_law_answer m _ st).trans (ans_n (t_un m hm) (t_mn m hm) (t_jn m hm) (t_on m hm) i k o st i0 i1 b)
theorem t_ref : ∀ m, 4 ≤ m → RefOk (tb m) := pre (c := 3) fun m hm i k o st i0 i1 b => (tb_law_refused m _ st).trans (ref_run (t_ax m hm) (t_an m hm) (t_smh m (by omega)) i k o st i0 i1 b)
theorem t_base : ∀ m, 4 ≤ m → BaseOk (tb m) := pre (c := 3) fun m hm i k o st i0 i1 b => (tb_law_refused_base m _ st).trans (base_run (t_ax m hm) (t_an m hm) i k o st i0 i1 b)
theorem t_signs : ∀ m, 1 ≤ m → SignsOk (tb m) := pre (c := 0) fun m _ st => (tb_law_signs m _ st).trans (signs_run (tb m) st)
theorem t_near : ∀ m, 4 ≤ m → NearOk (tb m) := pre (c := 3) fun m hm _ st h => by
  obtain ⟨w, s, e, q⟩ := near_run (t_draw m (by omega)) (t_kinds m (by omega)) (t_word m hm) (t_signs m (by omega)) st h
  exact ⟨w, s, (tb_law_near_kind m _ st).trans e, q⟩
def depth : Nat := 8
/-! ### the law -/
theorem pok0 (ns : List Int) : Pok [] (pl0 ns) := ⟨Int.le_refl 0, Int.le_refl 0, by show (0 : Int) < 10 ^ 18; decide, by show (0 : Int) ≤ 7; decide, rfl⟩
theorem kind_ix {r : Int} (h0 : 0 ≤ r) (h1 : r < 7) : ∃ s ∈ KS, ixD (.list kindsD) (.int r) = some (.str s) := by
  have hat := atI_of (xs := kindsD) h0 (by simpa [kindsD] using h1)
  generalize hx : kindsD[r.toNat]'_ = x at hat
  have hm : x ∈ kindsD := by rw [← hx]; exact List.getElem_mem _
  rw [kinds_ks] at hm
  obtain ⟨s, hs, rfl⟩ := List.mem_map.mp hm
  exact ⟨s, hs, hat⟩
theorem kind_not : (Str.ofString "kind") ∉ KS := by decide
theorem true_ (ns0 : List Int) (h0 : ns0.length ≤ 63) : ∃ st, lawRun (tb depth) I_law.n I_law.body ns0 = some (.rt (.bool true) st) := by
  have tp := t_pair depth (by decide)
  have tr := t_ref depth (by decide)
  have tbs := t_base depth (by decide)
  have tk := t_kinds depth (by decide)
  obtain ⟨a, st1, e1, a0, a1, h1⟩ := t_draw depth (by decide) 7 (pl0 ns0) (pok0 ns0) (by decide) (by decide)
  obtain ⟨b, st2, e2, b0, b1, h2⟩ := t_draw depth (by decide) 7 st1 h1 (by decide) (by decide)
  obtain ⟨g, st3, e3, g0, g1, h3⟩ := t_draw depth (by decide) 7 st2 h2 (by decide) (by decide)
  obtain ⟨n1, st4, e4, l1, h4⟩ := t_near depth (by decide) st3 h3
  obtain ⟨n2, st5, e5, l2, h5⟩ := t_near depth (by decide) st4 h4
  obtain ⟨good, hg, ixg⟩ := kind_ix g0 g1
  obtain ⟨sh, hsh, ixs⟩ := kind_ix b0 b1
  have gl : good.length ≤ 1000 := Nat.le_trans (ks_at hg).2.1 (by decide)
  show ∃ st, evSs (tb depth) I_law.body [.no, .pl, .no, .no, .no, .no, .no, .no, .no, .no, .no, .no] (pl0 ns0) = _
  generalize tb depth = cl at *
  generalize pl0 ns0 = st0 at *
  have rg7 : rngD 0 7 = some ((List.range 7).map fun (k : Nat) => PyData.int (k : Int)) := rngD_nat (n := 7) (by decide) (by decide)
  have rg4 : rngD 0 4 = some ((List.range 4).map fun (k : Nat) => PyData.int (k : Int)) := rngD_nat (n := 4) (by decide) (by decide)
  have m5 : (5 : Nat) ≤ most := by decide
  -- all pairs
  let E : Sl → Sl → List Sl := fun x y => [.no, .pl, .im (.list kindsD), .im (.int a), .im (.int b), x, y, .no, .no, .no, .no, .no]
  have modI : ∀ z : Int, binD .mod (.int z) (.int 7) = some (.int (z % 7)) := fun z => by
    show (if (0 : Int) < 7 then some (PyData.int (z % 7)) else none) = _
    rw [if_pos (by decide)]
  have intI : ∀ z : Int, biD .int [.int z] = some (.int z) := fun z => rfl
  have addI : ∀ y z : Int, binD .add (.int y) (.int z) = some (.int (y + z)) := fun y z => rfl
  obtain ⟨env', st', f1, x, y, f2, f3⟩ := forG_nx (f := fb cl (.one 5) (.cons (.forr (.one 6) (.rng1 (.cst (.int 7))) (.cons (.iff (.not (.call "_law_pair_told" (.cons (.ix (.var 2) (.bin .mod (.bi .int (.cons (.bin .add (.var 5) (.var 3)) .nil)) (.cst (.int 7)))) (.cons (.ix (.var 2) (.bin .mod (.bi .int (.cons (.bin .add (.var 6) (.var 4)) .nil)) (.cst (.int 7)))) .nil)))) (.cons (.ret (.cst (.bl false)))
  .nil) .nil)
  .nil))
  .nil))
    (fun _ env s => ∃ x y, env = E x y ∧ s = st2) ((List.range 7).map fun (k : Nat) => PyData.int (k : Int)) (E .no .no) st2 ⟨_, _, rfl, rfl⟩
    (fun i d env s hy ⟨x, y, e, e2⟩ => by
      subst e
      subst e2
      obtain ⟨hi, rfl⟩ := rng_at hy
      obtain ⟨k1, hk1, ix1⟩ := kind_ix (r := ((i : Int) + a) % 7) (Int.emod_nonneg _ (by decide)) (Int.emod_lt_of_pos _ (by decide))
      obtain ⟨env2, st6, p1, y2, p2, p3⟩ := forG_nx (f := fb cl (.one 6) (.cons (.iff (.not (.call "_law_pair_told" (.cons (.ix (.var 2) (.bin .mod (.bi .int (.cons (.bin .add (.var 5) (.var 3)) .nil)) (.cst (.int 7)))) (.cons (.ix (.var 2) (.bin .mod (.bi .int (.cons (.bin .add (.var 6) (.var 4)) .nil)) (.cst (.int 7)))) .nil)))) (.cons (.ret (.cst (.bl false)))
  .nil) .nil)
  .nil))
        (fun _ env r => ∃ y, env = E (.im (.int i)) y ∧ r = s) ((List.range 7).map fun (k : Nat) => PyData.int (k : Int)) (E (.im (.int i)) y) s ⟨_, rfl, rfl⟩
        (fun j d env r hz ⟨y, e, e2⟩ => by
          subst e
          subst e2
          obtain ⟨hj, rfl⟩ := rng_at hz
          obtain ⟨k2, hk2, ix2⟩ := kind_ix (r := ((j : Int) + b) % 7) (Int.emod_nonneg _ (by decide)) (Int.emod_lt_of_pos _ (by decide))
          exact ⟨E (.im (.int i)) (.im (.int j)), r, by simp [fb_eq, sgD, E, Cst.d, addI, intI, modI, ix1, ix2, tp k1 k2 r hk1 hk2], _, rfl, rfl⟩)
      subst p2
      subst p3
      exact ⟨E (.im (.int i)) y2, st6, by
        rw [fb_eq]
        show evSs cl _ (E (.im (.int i)) y) st6 = _
        refine sq_nx (e1 := E (.im (.int i)) y2) (st1 := st6) ?_ rfl
        simp only [q_evS_forr, q_ei_rng1]
        simp [Cst.d, rg7, p1], _, _, rfl, rfl⟩)
  subst f2
  subst f3
  -- the texts that are no kinds
  let l : List Str := [n1, n2, Str.ofString "", Str.ofString "lent", Str.ofString "Any"]
  have lT : ∀ s ∈ l, s.length ≤ 1000 := fun s hs => by
    simp only [l, List.mem_cons, List.not_mem_nil, or_false] at hs
    rcases hs with rfl | rfl | rfl | rfl | rfl
    · exact l1
    · exact l2
    · decide +kernel
    · decide +kernel
    · decide +kernel
  let G : Sl → Sl → Sl → List Sl := fun c t w => [.no, .pl, .im (.list kindsD), .im (.int a), .im (.int b), x, y, .im (.str good), .im (.list (l.map PyData.str)), c, t, w]
  have flt := flt_str (cl := cl) (it := .seq (.var 8)) (c := .cmp .notin (.var 10) (.var 2)) (j := 10) (p := fun s => !decide (s ∈ KS)) (l := l) (env := G .no .no .no) (st := st5) (by simp [G, itS]) (show (5 : Nat) ≤ most by decide) (by simp [G]) fun s hs => by
    by_cases c : s ∈ KS
    · simp [G, cmpD, not_in c, c]
    · simp [G, cmpD, not_out c, c]
  obtain ⟨bad, hbad⟩ : ∃ bad, bad = l.filter fun s => !decide (s ∈ KS) := ⟨_, rfl⟩
  rw [← hbad] at flt
  have badT : ∀ s ∈ bad, s ∉ KS ∧ s.length ≤ 1000 := fun s hs => by
    rw [hbad] at hs
    obtain ⟨q1, q2⟩ := List.mem_filter.mp hs
    exact ⟨by simpa using q2, lT s q1⟩
  have kl : (Str.ofString "kind").length ≤ 1000 := by decide +kernel
  obtain ⟨env3, st7, k1, y3, z3, k4, k5⟩ := forG_nx (f := fb cl (.one 11) (.cons (.forr (.one 10) (.seq (.var 9)) (.cons (.iff (.or (.not (.call "_law_refused" (.cons (.var 11) (.cons (.var 10) (.cons (.var 7) (.cons (.var 10) .nil)))))) (.not (.call "_law_refused" (.cons (.var 11) (.cons (.var 7) (.cons (.var 10) (.cons (.var 10) .nil))))))) (.cons (.ret (.cst (.bl false)))
  .nil) .nil)
  (.cons (.iff (.or (.not (.call "_law_refused" (.cons (.var 11) (.cons (.var 10) (.cons (.cst (.str "kind")) (.cons (.var 10) .nil)))))) (.not (.call "_law_refused" (.cons (.var 11) (.cons (.cst (.str "kind")) (.cons (.var 10) (.cons (.cst (.str "kind")) .nil))))))) (.cons (.ret (.cst (.bl false)))
  .nil) .nil)
  (.cons (.iff (.not (.call "_law_refused_base" (.cons (.var 11) (.cons (.var 7) (.cons (.var 10) .nil))))) (.cons (.ret (.cst (.bl false)))
  .nil) .nil)
  .nil))))
  .nil))
    (fun _ env s => ∃ t w, env = G (.im (.list (bad.map PyData.str))) t w ∧ s = st5) ((List.range 4).map fun (k : Nat) => PyData.int (k : Int)) (G (.im (.list (bad.map PyData.str))) .no .no) st5 ⟨_, _, rfl, rfl⟩
    (fun i d env s hy ⟨t, w, e, e2⟩ => by
      subst e
      subst e2
      obtain ⟨hi, rfl⟩ := rng_at hy
      have i0 : (0 : Int) ≤ (i : Int) := by omega
      have i4 : (i : Int) < 4 := by omega
      obtain ⟨env4, st8, p1, t2, p2, p3⟩ := forG_nx (f := fb cl (.one 10) (.cons (.iff (.or (.not (.call "_law_refused" (.cons (.var 11) (.cons (.var 10) (.cons (.var 7) (.cons (.var 10) .nil)))))) (.not (.call "_law_refused" (.cons (.var 11) (.cons (.var 7) (.cons (.var 10) (.cons (.var 10) .nil))))))) (.cons (.ret (.cst (.bl false)))
  .nil) .nil)
  (.cons (.iff (.or (.not (.call "_law_refused" (.cons (.var 11) (.cons (.var 10) (.cons (.cst (.str "kind")) (.cons (.var 10) .nil)))))) (.not (.call "_law_refused" (.cons (.var 11) (.cons (.cst (.str "kind")) (.cons (.var 10) (.cons (.cst (.str "kind")) .nil))))))) (.cons (.ret (.cst (.bl false)))
  .nil) .nil)
  (.cons (.iff (.not (.call "_law_refused_base" (.cons (.var 11) (.cons (.var 7) (.cons (.var 10) .nil))))) (.cons (.ret (.cst (.bl false)))
  .nil) .nil)
  .nil))))
        (fun _ env r => ∃ t, env = G (.im (.list (bad.map PyData.str))) t (.im (.int i)) ∧ r = s) (bad.map PyData.str) (G (.im (.list (bad.map PyData.str))) t (.im (.int i))) s ⟨_, rfl, rfl⟩
        (fun j d env r hz ⟨t, e, e2⟩ => by
          subst e
          subst e2
          rw [List.getElem?_map] at hz
          obtain ⟨u, hu1, rfl⟩ := Option.map_eq_some_iff.mp hz
          obtain ⟨un, ul⟩ := badT u (List.mem_of_getElem? hu1)
          have B1 : Bad u good := ⟨.inl un, ul, gl⟩
          have B2 : Bad good u := ⟨.inr un, gl, ul⟩
          have B3 : Bad u (Str.ofString "kind") := ⟨.inl un, ul, kl⟩
          have B4 : Bad (Str.ofString "kind") u := ⟨.inl kind_not, kl, ul⟩
          have r1 := tr i u good r i0 i4 B1
          have r2 := tr i good u r i0 i4 B2
          have r3 := tr i u _ r i0 i4 B3
          have r4 := tr i _ u r i0 i4 B4
          have r5 := tbs i good u r i0 i4 B2
          rw [show fbd u good = u from if_neg un] at r1
          rw [show fbd good u = u from if_pos hg] at r2
          rw [show fbd u (Str.ofString "kind") = u from if_neg un] at r3
          rw [show fbd (Str.ofString "kind") u = Str.ofString "kind" from if_neg kind_not] at r4
          exact ⟨G (.im (.list (bad.map PyData.str))) (.im (.str u)) (.im (.int i)), r, by simp [fb_eq, sgD, G, Cst.d, r1, r2, r3, r4, r5], _, rfl, rfl⟩)
      subst p2
      subst p3
      exact ⟨G (.im (.list (bad.map PyData.str))) t2 (.im (.int i)), st8, by
        rw [fb_eq]
        show evSs cl _ (G (.im (.list (bad.map PyData.str))) t (.im (.int i))) st8 = _
        refine sq_nx (e1 := G (.im (.list (bad.map PyData.str))) t2 (.im (.int i))) (st1 := st8) ?_ rfl
        have q9 : (G (.im (.list (bad.map PyData.str))) t (.im (.int i)))[9]? = some (.im (.list (bad.map PyData.str))) := rfl
        simp only [q_evS_forr, q_ei_seq]
        simp [q9, itS, p1], _, _, rfl, rfl⟩)
  subst k4
  subst k5
  refine ⟨st7, ?_⟩
  refine sq_nx (e1 := [.no, .pl, .im (.list kindsD), .no, .no, .no, .no, .no, .no, .no, .no, .no]) (st1 := st0) (set_run (by simp [tk st0])) ?_
  refine sq_nx (e1 := [.no, .pl, .im (.list kindsD), .im (.int a), .no, .no, .no, .no, .no, .no, .no, .no]) (st1 := st1) (set_run (by simp [Cst.d, e1])) ?_
  refine sq_nx (e1 := E .no .no) (st1 := st') (set_run (by simp [Cst.d, e2])) ?_
  refine sq_nx (e1 := E x y) (st1 := st') (by
    simp only [q_evS_forr, q_ei_rng1]
    simp [Cst.d, rg7, f1]) ?_
  refine sq_nx (e1 := [.no, .pl, .im (.list kindsD), .im (.int a), .im (.int b), x, y, .im (.str good), .no, .no, .no, .no]) (st1 := st3) (set_run (by simp [E, Cst.d, e3, ixg])) ?_
  refine sq_nx (e1 := G .no .no .no) (st1 := st7) (set_run (d := .list (l.map PyData.str)) (by simp [Cst.d, e4, e5, m5, l])) ?_
  refine sq_nx (e1 := G (.im (.list (bad.map PyData.str))) .no .no) (st1 := st7) (set_run flt) ?_
  refine sq_nx (e1 := G (.im (.list (bad.map PyData.str))) y3 z3) (st1 := st7) (by
    simp only [q_evS_forr, q_ei_rng1]
    simp [Cst.d, rg4, k1]) (sq_rt (ret_run ?_))
  have q2 : (G (.im (.list (bad.map PyData.str))) y3 z3)[2]? = some (.im (.list kindsD)) := rfl
  have q4 : (G (.im (.list (bad.map PyData.str))) y3 z3)[4]? = some (.im (.int b)) := rfl
  have q7 : (G (.im (.list (bad.map PyData.str))) y3 z3)[7]? = some (.im (.str good)) := rfl
  simp [q2, q4, q7, ixs, tp good sh st7 hg hsh, tp sh good st7 hsh hg]
end K02

set_option Elab.async false
set_option linter.all false
set_option maxRecDepth 100000
set_option maxHeartbeats 0
namespace K02
open PySem PySem.Spec PyProof.Rows L2 Ip
section
variable {P : Program} {w : World} {K : PySem.W.Frag} {mg : Str → Option Value} {base : Heap}
structure All (P : Program) (w : World) (K : PySem.W.Frag) (mg : Str → Option Value) (base : Heap) : Prop where
  h_atoms_of : Hv K mg "atoms_of" (top 7) ["kind"]
  h_under : Hv K mg "under" (top 8) ["kind", "other"]
  h_meet : Hv K mg "meet" (top 9) ["kind", "other"]
  h_join : Hv K mg "join" (top 10) ["kind", "other"]
  h_at_odds : Hv K mg "at_odds" (top 11) ["kind", "other"]
  h_least_with : Hv K mg "_least_with" (top 12) ["atoms"]
  h_law_mixed : Hv K mg "_law_mixed" (top 15) ["_law_cell", "_law_turn", "_law_limit"]
  h_law_draw : Hv K mg "_law_draw" (top 16) ["_law_pool_here", "_law_limit"]
  h_law_kinds : Hv K mg "_law_kinds" (top 17) []
  h_law_atoms : Hv K mg "_law_atoms" (top 18) ["_law_kind"]
  h_law_under : Hv K mg "_law_under" (top 19) ["_law_kind", "_law_other"]
  h_law_word : Hv K mg "_law_word" (top 20) ["_law_pool_here", "_law_first", "_law_signs_here", "_law_more"]
  h_law_is_int : Hv K mg "_law_is_int" (top 21) ["_law_thing"]
  h_law_same : Hv K mg "_law_same" (top 22) ["_law_mine", "_law_due"]
  h_law_signs : Hv K mg "_law_signs" (top 23) []
  h_law_near_kind : Hv K mg "_law_near_kind" (top 24) ["_law_pool_here"]
  h_law_answer : Hv K mg "_law_answer" (top 25) ["_law_way", "_law_kind", "_law_other"]
  h_law_refused : Hv K mg "_law_refused" (top 26) ["_law_way", "_law_kind", "_law_other", "_law_due"]
  h_law_refused_base : Hv K mg "_law_refused_base" (top 27) ["_law_way", "_law_kind", "_law_other"]
  h_law_bounds_told : Hv K mg "_law_bounds_told" (top 28) ["_law_kind", "_law_other", "_law_lower", "_law_upper"]
  h_law_pair_told : Hv K mg "_law_pair_told" (top 29) ["_law_kind", "_law_other"]
  b_ValueError : mg "ValueError" = none
  b_all : mg "all" = none
  b_any : mg "any" = none
  b_bool : mg "bool" = none
  b_int : mg "int" = none
  b_isinstance : mg "isinstance" = none
  b_len : mg "len" = none
  b_list : mg "list" = none
  b_min : mg "min" = none
  b_range : mg "range" = none
  b_str : mg "str" = none
  b_super : mg "super" = none
  b_tuple : mg "tuple" = none
  lmb : lmB K lmN = true
  tbb : LamX.TabB base mg (lmC K lmN) (lmP K lmN)
  glm : mg lmN = some (.ref (He.ga K lmN))
  kd : ∀ q ∈ kd, DctAt K w mg q
  er : ∀ k : Nat, ∀ q ∈ es, ∃ C, ErrFo P w K mg base (k + 2) q.1 q.2 C
  ef : ∀ Γ : Gam, Γ.es = es → Γ.ks = ks → Γ.ts = ts → Γ.gs = gs → ErrFacts Γ K mg
def names : List Str := [Str.ofString "atoms_of", Str.ofString "under", Str.ofString "meet", Str.ofString "join", Str.ofString "at_odds", Str.ofString "_least_with", Str.ofString "_law_mixed", Str.ofString "_law_draw", Str.ofString "_law_kinds", Str.ofString "_law_atoms", Str.ofString "_law_under", Str.ofString "_law_word", Str.ofString "_law_is_int", Str.ofString "_law_same", Str.ofString "_law_signs", Str.ofString "_law_near_kind", Str.ofString "_law_answer", Str.ofString "_law_refused", Str.ofString "_law_refused_base", Str.ofString "_law_bounds_told", Str.ofString "_law_pair_told"]
def inames : List Str := []
def fnames : List Str := []
def xnames : List Str := ["atoms_of", "under", "meet", "join", "at_odds", "_law_answer"]
def hnames : List Str := ["_law_same", "_law_is_int"]
def lnames : List Str := []
structure Beh (P : Program) (w : World) (K : PySem.W.Frag) (mg : Str → Option Value) (base : Heap) (n : Nat) : Prop where
  fo : ∀ f ∈ names, Fo P w K mg base (4 * n + 4) (tb n) f
  fg : ∀ f ∈ xnames, FoG P w K mg base (4 * n + 4) es (tb n) f
  fh : ∀ f ∈ hnames, FoH P w K mg base (4 * n + 4) (tb n) f
  fl : ∀ f ∈ lnames, FoL P w K mg base (4 * n + 4) (tb n) f
  fi : ∀ f ∈ inames, FoI P w K mg base (4 * n + 4) (tb n) f
  ff : ∀ f ∈ fnames, FoR P w K mg base (4 * n + 4) (tb n) f
  fd : ∀ q ∈ df, ∃ fa fd ps us, FnOk P w K mg base (L2N.CX P w) (4 * n + 4) fa fd ps (spG mg es K (tb n) q.1) ∧ mg q.1 = some (.ref fa) ∧ PySem.W.keepIn K (.ref fa) = true ∧ Binds K fd ps us ∧ Vals (q.2.map Cst.v) us
theorem av_atoms_of (A : All P w K mg base) {n : Nat} (b : Beh P w K mg base n) : Av P w K mg base (4 * n + 4) (g_atoms_of K (tb n)) where
  fn := fun _ g hg => b.fo g (by
    cases hg)
  fnh := fun g hg => b.fh g (by
    cases hg)
  bl := fun g hg => by
    cases hg
  xn := fun _ g hg => b.fg g (by
    cases hg)
  er := fun _ q hq => A.er (4 * n + 2) q hq
  df := fun _ q hq => b.fd q hq
  ef := A.ef _ rfl rfl rfl rfl
  kd := A.kd
theorem av_under (A : All P w K mg base) {n : Nat} (b : Beh P w K mg base n) : Av P w K mg base (4 * n + 4) (g_under K (tb n)) where
  fn := fun _ g hg => b.fo g (by
    simp only [List.mem_cons, List.not_mem_nil, or_false] at hg
    subst hg
    all_goals simp [names])
  fnh := fun g hg => b.fh g (by
    cases hg)
  bl := fun g hg => by
    simp only [List.mem_cons, List.not_mem_nil, or_false] at hg
    subst hg
    exact A.b_all
  xn := fun _ g hg => b.fg g (by
    simp only [List.mem_cons, List.not_mem_nil, or_false] at hg
    subst hg
    all_goals simp [xnames])
  er := fun _ q hq => A.er (4 * n + 2) q hq
  df := fun _ q hq => b.fd q hq
  ef := A.ef _ rfl rfl rfl rfl
  kd := A.kd
theorem av_meet (A : All P w K mg base) {n : Nat} (b : Beh P w K mg base n) : Av P w K mg base (4 * n + 4) (g_meet K (tb n)) where
  fn := fun _ g hg => b.fo g (by
    simp only [List.mem_cons, List.not_mem_nil, or_false] at hg
    subst hg
    all_goals simp [names])
  fnh := fun g hg => b.fh g (by
    cases hg)
  bl := fun g hg => by
    simp only [List.mem_cons, List.not_mem_nil, or_false] at hg
    subst hg
    exact A.b_tuple
  xn := fun _ g hg => b.fg g (by
    simp only [List.mem_cons, List.not_mem_nil, or_false] at hg
    subst hg
    all_goals simp [xnames])
  er := fun _ q hq => A.er (4 * n + 2) q hq
  df := fun _ q hq => b.fd q hq
  ef := A.ef _ rfl rfl rfl rfl
  kd := A.kd
theorem av_join (A : All P w K mg base) {n : Nat} (b : Beh P w K mg base n) : Av P w K mg base (4 * n + 4) (g_join K (tb n)) where
  fn := fun _ g hg => b.fo g (by
    simp only [List.mem_cons, List.not_mem_nil, or_false] at hg
    rcases hg with rfl | rfl
    all_goals simp [names])
  fnh := fun g hg => b.fh g (by
    cases hg)
  bl := fun g hg => by
    cases hg
  xn := fun _ g hg => b.fg g (by
    simp only [List.mem_cons, List.not_mem_nil, or_false] at hg
    subst hg
    all_goals simp [xnames])
  er := fun _ q hq => A.er (4 * n + 2) q hq
  df := fun _ q hq => b.fd q hq
  ef := A.ef _ rfl rfl rfl rfl
  kd := A.kd
theorem av_at_odds (A : All P w K mg base) {n : Nat} (b : Beh P w K mg base n) : Av P w K mg base (4 * n + 4) (g_at_odds K (tb n)) where
  fn := fun _ g hg => b.fo g (by
    simp only [List.mem_cons, List.not_mem_nil, or_false] at hg
    rcases hg with rfl | rfl
    all_goals simp [names])
  fnh := fun g hg => b.fh g (by
    cases hg)
  bl := fun g hg => by
    simp only [List.mem_cons, List.not_mem_nil, or_false] at hg
    subst hg
    exact A.b_any
  xn := fun _ g hg => b.fg g (by
    simp only [List.mem_cons, List.not_mem_nil, or_false] at hg
    subst hg
    all_goals simp [xnames])
  er := fun _ q hq => A.er (4 * n + 2) q hq
  df := fun _ q hq => b.fd q hq
  ef := A.ef _ rfl rfl rfl rfl
  kd := A.kd
theorem av_least_with (A : All P w K mg base) {n : Nat} (b : Beh P w K mg base n) : Av P w K mg base (4 * n + 7) { g_least_with K (tb n) with lm := false } where
  fn := fun _ g hg => Fo.up (b.fo g (by
    simp only [List.mem_cons, List.not_mem_nil, or_false] at hg
    subst hg
    all_goals simp [names])) (by omega)
  fnh := fun g hg => FoH.up (b.fh g (by
    cases hg)) (by omega)
  bl := fun g hg => by
    simp only [List.mem_cons, List.not_mem_nil, or_false] at hg
    rcases hg with rfl | rfl | rfl
    · exact A.b_min
    · exact A.b_len
    · exact A.b_all
  xn := fun _ g hg => FoG.up (b.fg g (by
    cases hg)) (by omega)
  er := fun _ q hq => A.er (4 * n + 5) q hq
  df := fun _ q hq => by cases hq
  ef := A.ef _ rfl rfl rfl rfl
  kd := A.kd
  lx := fun _ g hg => by
    obtain ⟨fa, fd, ps, h1, h2, h3, h4⟩ := b.fo g (by
      simp only [List.mem_cons, List.not_mem_nil, or_false] at hg
      subst hg
      all_goals simp [names])
    exact ⟨fa, fd, ps, 4 * n + 4, by omega, h1, h2, h3, h4⟩
theorem av_law_mixed (A : All P w K mg base) {n : Nat} (b : Beh P w K mg base n) : Av P w K mg base (4 * n + 4) (g_law_mixed K (tb n)) where
  fn := fun _ g hg => b.fo g (by
    cases hg)
  fnh := fun g hg => b.fh g (by
    cases hg)
  bl := fun g hg => by
    simp only [List.mem_cons, List.not_mem_nil, or_false] at hg
    subst hg
    exact A.b_int
  xn := fun _ g hg => b.fg g (by
    cases hg)
  er := fun _ q hq => A.er (4 * n + 2) q hq
  df := fun _ q hq => b.fd q hq
  ef := A.ef _ rfl rfl rfl rfl
  kd := A.kd
theorem av_law_draw (A : All P w K mg base) {n : Nat} (b : Beh P w K mg base n) : Av P w K mg base (4 * n + 4) (g_law_draw K (tb n)) where
  fn := fun _ g hg => b.fo g (by
    simp only [List.mem_cons, List.not_mem_nil, or_false] at hg
    subst hg
    all_goals simp [names])
  fnh := fun g hg => b.fh g (by
    cases hg)
  bl := fun g hg => by
    simp only [List.mem_cons, List.not_mem_nil, or_false] at hg
    rcases hg with rfl | rfl
    · exact A.b_int
    · exact A.b_len
  xn := fun _ g hg => b.fg g (by
    cases hg)
  er := fun _ q hq => A.er (4 * n + 2) q hq
  df := fun _ q hq => b.fd q hq
  ef := A.ef _ rfl rfl rfl rfl
  kd := A.kd
theorem av_law_kinds (A : All P w K mg base) {n : Nat} (b : Beh P w K mg base n) : Av P w K mg base (4 * n + 4) (g_law_kinds K (tb n)) where
  fn := fun _ g hg => b.fo g (by
    cases hg)
  fnh := fun g hg => b.fh g (by
    cases hg)
  bl := fun g hg => by
    cases hg
  xn := fun _ g hg => b.fg g (by
    cases hg)
  er := fun _ q hq => A.er (4 * n + 2) q hq
  df := fun _ q hq => b.fd q hq
  ef := A.ef _ rfl rfl rfl rfl
  kd := A.kd
theorem av_law_atoms (A : All P w K mg base) {n : Nat} (b : Beh P w K mg base n) : Av P w K mg base (4 * n + 4) (g_law_atoms K (tb n)) where
  fn := fun _ g hg => b.fo g (by
    cases hg)
  fnh := fun g hg => b.fh g (by
    cases hg)
  bl := fun g hg => by
    cases hg
  xn := fun _ g hg => b.fg g (by
    cases hg)
  er := fun _ q hq => A.er (4 * n + 2) q hq
  df := fun _ q hq => b.fd q hq
  ef := A.ef _ rfl rfl rfl rfl
  kd := A.kd
theorem av_law_under (A : All P w K mg base) {n : Nat} (b : Beh P w K mg base n) : Av P w K mg base (4 * n + 4) (g_law_under K (tb n)) where
  fn := fun _ g hg => b.fo g (by
    simp only [List.mem_cons, List.not_mem_nil, or_false] at hg
    subst hg
    all_goals simp [names])
  fnh := fun g hg => b.fh g (by
    cases hg)
  bl := fun g hg => by
    simp only [List.mem_cons, List.not_mem_nil, or_false] at hg
    subst hg
    exact A.b_all
  xn := fun _ g hg => b.fg g (by
    cases hg)
  er := fun _ q hq => A.er (4 * n + 2) q hq
  df := fun _ q hq => b.fd q hq
  ef := A.ef _ rfl rfl rfl rfl
  kd := A.kd
theorem av_law_word (A : All P w K mg base) {n : Nat} (b : Beh P w K mg base n) : Av P w K mg base (4 * n + 4) (g_law_word K (tb n)) where
  fn := fun _ g hg => b.fo g (by
    simp only [List.mem_cons, List.not_mem_nil, or_false] at hg
    subst hg
    all_goals simp [names])
  fnh := fun g hg => b.fh g (by
    cases hg)
  bl := fun g hg => by
    simp only [List.mem_cons, List.not_mem_nil, or_false] at hg
    rcases hg with rfl | rfl
    · exact A.b_range
    · exact A.b_len
  xn := fun _ g hg => b.fg g (by
    cases hg)
  er := fun _ q hq => A.er (4 * n + 2) q hq
  df := fun _ q hq => b.fd q hq
  ef := A.ef _ rfl rfl rfl rfl
  kd := A.kd
theorem av_law_is_int (A : All P w K mg base) {n : Nat} (b : Beh P w K mg base n) : Av P w K mg base (4 * n + 4) (g_law_is_int K (tb n)) where
  fn := fun _ g hg => b.fo g (by
    cases hg)
  fnh := fun g hg => b.fh g (by
    cases hg)
  bl := fun g hg => by
    simp only [List.mem_cons, List.not_mem_nil, or_false] at hg
    rcases hg with rfl | rfl | rfl
    · exact A.b_isinstance
    · exact A.b_int
    · exact A.b_bool
  xn := fun _ g hg => b.fg g (by
    cases hg)
  er := fun _ q hq => A.er (4 * n + 2) q hq
  df := fun _ q hq => b.fd q hq
  ef := A.ef _ rfl rfl rfl rfl
  kd := A.kd
theorem av_law_same (A : All P w K mg base) {n : Nat} (b : Beh P w K mg base n) : Av P w K mg base (4 * n + 4) (g_law_same K (tb n)) where
  fn := fun _ g hg => b.fo g (by
    simp only [List.mem_cons, List.not_mem_nil, or_false] at hg
    rcases hg with rfl | rfl
    all_goals simp [names])
  fnh := fun g hg => b.fh g (by
    cases hg)
  bl := fun g hg => by
    simp only [List.mem_cons, List.not_mem_nil, or_false] at hg
    rcases hg with rfl | rfl | rfl | rfl | rfl | rfl | rfl | rfl
    · exact A.b_range
    · exact A.b_len
    · exact A.b_isinstance
    · exact A.b_tuple
    · exact A.b_list
    · exact A.b_str
    · exact A.b_int
    · exact A.b_bool
  xn := fun _ g hg => b.fg g (by
    cases hg)
  er := fun _ q hq => A.er (4 * n + 2) q hq
  df := fun _ q hq => b.fd q hq
  ef := A.ef _ rfl rfl rfl rfl
  kd := A.kd
theorem av_law_signs (A : All P w K mg base) {n : Nat} (b : Beh P w K mg base n) : Av P w K mg base (4 * n + 4) (g_law_signs K (tb n)) where
  fn := fun _ g hg => b.fo g (by
    cases hg)
  fnh := fun g hg => b.fh g (by
    cases hg)
  bl := fun g hg => by
    cases hg
  xn := fun _ g hg => b.fg g (by
    cases hg)
  er := fun _ q hq => A.er (4 * n + 2) q hq
  df := fun _ q hq => b.fd q hq
  ef := A.ef _ rfl rfl rfl rfl
  kd := A.kd
theorem av_law_near_kind (A : All P w K mg base) {n : Nat} (b : Beh P w K mg base n) : Av P w K mg base (4 * n + 4) (g_law_near_kind K (tb n)) where
  fn := fun _ g hg => b.fo g (by
    simp only [List.mem_cons, List.not_mem_nil, or_false] at hg
    rcases hg with rfl | rfl | rfl | rfl
    all_goals simp [names])
  fnh := fun g hg => b.fh g (by
    cases hg)
  bl := fun g hg => by
    simp only [List.mem_cons, List.not_mem_nil, or_false] at hg
    rcases hg with rfl | rfl
    · exact A.b_range
    · exact A.b_len
  xn := fun _ g hg => b.fg g (by
    cases hg)
  er := fun _ q hq => A.er (4 * n + 2) q hq
  df := fun _ q hq => b.fd q hq
  ef := A.ef _ rfl rfl rfl rfl
  kd := A.kd
theorem av_law_answer (A : All P w K mg base) {n : Nat} (b : Beh P w K mg base n) : Av P w K mg base (4 * n + 4) (g_law_answer K (tb n)) where
  fn := fun _ g hg => b.fo g (by
    simp only [List.mem_cons, List.not_mem_nil, or_false] at hg
    rcases hg with rfl | rfl | rfl | rfl
    all_goals simp [names])
  fnh := fun g hg => b.fh g (by
    cases hg)
  bl := fun g hg => by
    cases hg
  xn := fun _ g hg => b.fg g (by
    simp only [List.mem_cons, List.not_mem_nil, or_false] at hg
    rcases hg with rfl | rfl | rfl | rfl
    all_goals simp [xnames])
  er := fun _ q hq => A.er (4 * n + 2) q hq
  df := fun _ q hq => b.fd q hq
  ef := A.ef _ rfl rfl rfl rfl
  kd := A.kd
theorem av_law_refused (A : All P w K mg base) {n : Nat} (b : Beh P w K mg base n) : Av P w K mg base (4 * n + 4) (g_law_refused K (tb n)) where
  fn := fun _ g hg => b.fo g (by
    simp only [List.mem_cons, List.not_mem_nil, or_false] at hg
    subst hg
    all_goals simp [names])
  fnh := fun g hg => b.fh g (by
    simp only [List.mem_cons, List.not_mem_nil, or_false] at hg
    subst hg
    all_goals simp [hnames])
  bl := fun g hg => by
    simp only [List.mem_cons, List.not_mem_nil, or_false] at hg
    subst hg
    exact A.b_isinstance
  xn := fun _ g hg => b.fg g (by
    simp only [List.mem_cons, List.not_mem_nil, or_false] at hg
    subst hg
    all_goals simp [xnames])
  er := fun _ q hq => A.er (4 * n + 2) q hq
  df := fun _ q hq => b.fd q hq
  ef := A.ef _ rfl rfl rfl rfl
  kd := A.kd
theorem av_law_refused_base (A : All P w K mg base) {n : Nat} (b : Beh P w K mg base n) : Av P w K mg base (4 * n + 4) (g_law_refused_base K (tb n)) where
  fn := fun _ g hg => b.fo g (by
    simp only [List.mem_cons, List.not_mem_nil, or_false] at hg
    subst hg
    all_goals simp [names])
  fnh := fun g hg => b.fh g (by
    cases hg)
  bl := fun g hg => by
    simp only [List.mem_cons, List.not_mem_nil, or_false] at hg
    subst hg
    exact A.b_isinstance
  xn := fun _ g hg => b.fg g (by
    simp only [List.mem_cons, List.not_mem_nil, or_false] at hg
    subst hg
    all_goals simp [xnames])
  er := fun _ q hq => A.er (4 * n + 2) q hq
  df := fun _ q hq => b.fd q hq
  ef := A.ef _ rfl rfl rfl rfl
  kd := A.kd
theorem av_law_bounds_told (A : All P w K mg base) {n : Nat} (b : Beh P w K mg base n) : Av P w K mg base (4 * n + 4) (g_law_bounds_told K (tb n)) where
  fn := fun _ g hg => b.fo g (by
    simp only [List.mem_cons, List.not_mem_nil, or_false] at hg
    rcases hg with rfl | rfl | rfl
    all_goals simp [names])
  fnh := fun g hg => b.fh g (by
    cases hg)
  bl := fun g hg => by
    simp only [List.mem_cons, List.not_mem_nil, or_false] at hg
    subst hg
    exact A.b_all
  xn := fun _ g hg => b.fg g (by
    cases hg)
  er := fun _ q hq => A.er (4 * n + 2) q hq
  df := fun _ q hq => b.fd q hq
  ef := A.ef _ rfl rfl rfl rfl
  kd := A.kd
theorem av_law_pair_told (A : All P w K mg base) {n : Nat} (b : Beh P w K mg base n) : Av P w K mg base (4 * n + 4) (g_law_pair_told K (tb n)) where
  fn := fun _ g hg => b.fo g (by
    simp only [List.mem_cons, List.not_mem_nil, or_false] at hg
    rcases hg with rfl | rfl | rfl | rfl | rfl | rfl | rfl | rfl
    all_goals simp [names])
  fnh := fun g hg => b.fh g (by
    cases hg)
  bl := fun g hg => by
    simp only [List.mem_cons, List.not_mem_nil, or_false] at hg
    rcases hg with rfl | rfl | rfl
    · exact A.b_len
    · exact A.b_range
    · exact A.b_all
  xn := fun _ g hg => b.fg g (by
    cases hg)
  er := fun _ q hq => A.er (4 * n + 2) q hq
  df := fun _ q hq => b.fd q hq
  ef := A.ef _ rfl rfl rfl rfl
  kd := A.kd
theorem avh_law_same (A : All P w K mg base) {n : Nat} (b : Beh P w K mg base n) : Av P w K mg base (4 * n + 4) (gh_law_same K (tb n)) where
  fn := fun _ g hg => b.fo g (by
    cases hg)
  fnh := fun g hg => b.fh g (by
    simp only [List.mem_cons, List.not_mem_nil, or_false] at hg
    subst hg
    all_goals simp [hnames])
  bl := fun g hg => by
    simp only [List.mem_cons, List.not_mem_nil, or_false] at hg
    rcases hg with rfl | rfl | rfl | rfl | rfl | rfl | rfl
    · exact A.b_len
    · exact A.b_isinstance
    · exact A.b_tuple
    · exact A.b_list
    · exact A.b_str
    · exact A.b_int
    · exact A.b_bool
  xn := fun _ g hg => b.fg g (by
    cases hg)
  er := fun _ q hq => A.er (4 * n + 2) q hq
  df := fun _ q hq => b.fd q hq
  ef := A.ef _ rfl rfl rfl rfl
  kd := A.kd
theorem avh_law_is_int (A : All P w K mg base) {n : Nat} (b : Beh P w K mg base n) : Av P w K mg base (4 * n + 4) (gh_law_is_int K (tb n)) where
  fn := fun _ g hg => b.fo g (by
    cases hg)
  fnh := fun g hg => b.fh g (by
    cases hg)
  bl := fun g hg => by
    simp only [List.mem_cons, List.not_mem_nil, or_false] at hg
    rcases hg with rfl | rfl | rfl
    · exact A.b_isinstance
    · exact A.b_int
    · exact A.b_bool
  xn := fun _ g hg => b.fg g (by
    cases hg)
  er := fun _ q hq => A.er (4 * n + 2) q hq
  df := fun _ q hq => b.fd q hq
  ef := A.ef _ rfl rfl rfl rfl
  kd := A.kd
theorem av_law (A : All P w K mg base) {n : Nat} (b : Beh P w K mg base n) : Av P w K mg base (4 * n + 4) (g_law K (tb n)) where
  fn := fun _ g hg => b.fo g (by
    simp only [List.mem_cons, List.not_mem_nil, or_false] at hg
    rcases hg with rfl | rfl | rfl | rfl | rfl | rfl
    all_goals simp [names])
  fnh := fun g hg => b.fh g (by
    cases hg)
  bl := fun g hg => by
    simp only [List.mem_cons, List.not_mem_nil, or_false] at hg
    rcases hg with rfl | rfl
    · exact A.b_range
    · exact A.b_int
  xn := fun _ g hg => b.fg g (by
    cases hg)
  er := fun _ q hq => A.er (4 * n + 2) q hq
  df := fun _ q hq => b.fd q hq
  ef := A.ef _ rfl rfl rfl rfl
  kd := A.kd
theorem beh (A : All P w K mg base) : ∀ n, Beh P w K mg base n
  | 0 => ⟨fun f hg => by
      simp only [names, List.mem_cons, List.not_mem_nil, or_false] at hg
      rcases hg with rfl | rfl | rfl | rfl | rfl | rfl | rfl | rfl | rfl | rfl | rfl | rfl | rfl | rfl | rfl | rfl | rfl | rfl | rfl | rfl | rfl
      · exact fo_zero A.h_atoms_of
      · exact fo_zero A.h_under
      · exact fo_zero A.h_meet
      · exact fo_zero A.h_join
      · exact fo_zero A.h_at_odds
      · exact fo_zero A.h_least_with
      · exact fo_zero A.h_law_mixed
      · exact fo_zero A.h_law_draw
      · exact fo_zero A.h_law_kinds
      · exact fo_zero A.h_law_atoms
      · exact fo_zero A.h_law_under
      · exact fo_zero A.h_law_word
      · exact fo_zero A.h_law_is_int
      · exact fo_zero A.h_law_same
      · exact fo_zero A.h_law_signs
      · exact fo_zero A.h_law_near_kind
      · exact fo_zero A.h_law_answer
      · exact fo_zero A.h_law_refused
      · exact fo_zero A.h_law_refused_base
      · exact fo_zero A.h_law_bounds_told
      · exact fo_zero A.h_law_pair_told
    , fun f hg => by
      simp only [xnames, List.mem_cons, List.not_mem_nil, or_false] at hg
      rcases hg with rfl | rfl | rfl | rfl | rfl | rfl
      · exact fog_zero A.h_atoms_of
      · exact fog_zero A.h_under
      · exact fog_zero A.h_meet
      · exact fog_zero A.h_join
      · exact fog_zero A.h_at_odds
      · exact fog_zero A.h_law_answer
    , fun f hg => by
      simp only [hnames, List.mem_cons, List.not_mem_nil, or_false] at hg
      rcases hg with rfl | rfl
      · exact foh_zero A.h_law_same
      · exact foh_zero A.h_law_is_int
    , fun f hg => by
      simp [lnames] at hg
    , fun f hg => by
      simp [inames] at hg
    , fun f hg => by
      simp [fnames] at hg
    , fun q hg => by
      simp [df] at hg
    ⟩
  | n + 1 => ⟨fun f hg => by
      have b := beh A n
      simp only [names, List.mem_cons, List.not_mem_nil, or_false] at hg
      rcases hg with rfl | rfl | rfl | rfl | rfl | rfl | rfl | rfl | rfl | rfl | rfl | rfl | rfl | rfl | rfl | rfl | rfl | rfl | rfl | rfl | rfl
      · exact (fo_step A.h_atoms_of s_atoms_of rfl rfl rfl rfl (d_atoms_of K (tb n)) rfl (fun as s => tb_atoms_of n as s) (av_atoms_of A b)).up (by omega)
      · exact (fo_step A.h_under s_under rfl rfl rfl rfl (d_under K (tb n)) rfl (fun as s => tb_under n as s) (av_under A b)).up (by omega)
      · exact (fo_step A.h_meet s_meet rfl rfl rfl rfl (d_meet K (tb n)) rfl (fun as s => tb_meet n as s) (av_meet A b)).up (by omega)
      · exact (fo_step A.h_join s_join rfl rfl rfl rfl (d_join K (tb n)) rfl (fun as s => tb_join n as s) (av_join A b)).up (by omega)
      · exact (fo_step A.h_at_odds s_at_odds rfl rfl rfl rfl (d_at_odds K (tb n)) rfl (fun as s => tb_at_odds n as s) (av_at_odds A b)).up (by omega)
      · exact (fo_stepL A.h_least_with s_least_with rfl rfl rfl rfl (d_least_with K (tb n)) rfl (fun as s => tb_least_with n as s) (av_least_with A b) rfl A.glm A.lmb A.tbb).up (by omega)
      · exact (fo_step A.h_law_mixed s_law_mixed rfl rfl rfl rfl (d_law_mixed K (tb n)) rfl (fun as s => tb_law_mixed n as s) (av_law_mixed A b)).up (by omega)
      · exact (fo_step A.h_law_draw s_law_draw rfl rfl rfl rfl (d_law_draw K (tb n)) rfl (fun as s => tb_law_draw n as s) (av_law_draw A b)).up (by omega)
      · exact (fo_step A.h_law_kinds s_law_kinds rfl rfl rfl rfl (d_law_kinds K (tb n)) rfl (fun as s => tb_law_kinds n as s) (av_law_kinds A b)).up (by omega)
      · exact (fo_step A.h_law_atoms s_law_atoms rfl rfl rfl rfl (d_law_atoms K (tb n)) rfl (fun as s => tb_law_atoms n as s) (av_law_atoms A b)).up (by omega)
      · exact (fo_step A.h_law_under s_law_under rfl rfl rfl rfl (d_law_under K (tb n)) rfl (fun as s => tb_law_under n as s) (av_law_under A b)).up (by omega)
      · exact (fo_step A.h_law_word s_law_word rfl rfl rfl rfl (d_law_word K (tb n)) rfl (fun as s => tb_law_word n as s) (av_law_word A b)).up (by omega)
      · exact (fo_step A.h_law_is_int s_law_is_int rfl rfl rfl rfl (d_law_is_int K (tb n)) rfl (fun as s => tb_law_is_int n as s) (av_law_is_int A b)).up (by omega)
      · exact (fo_step A.h_law_same s_law_same rfl rfl rfl rfl (d_law_same K (tb n)) rfl (fun as s => tb_law_same n as s) (av_law_same A b)).up (by omega)
      · exact (fo_step A.h_law_signs s_law_signs rfl rfl rfl rfl (d_law_signs K (tb n)) rfl (fun as s => tb_law_signs n as s) (av_law_signs A b)).up (by omega)
      · exact (fo_step A.h_law_near_kind s_law_near_kind rfl rfl rfl rfl (d_law_near_kind K (tb n)) rfl (fun as s => tb_law_near_kind n as s) (av_law_near_kind A b)).up (by omega)
      · exact (fo_step A.h_law_answer s_law_answer rfl rfl rfl rfl (d_law_answer K (tb n)) rfl (fun as s => tb_law_answer n as s) (av_law_answer A b)).up (by omega)
      · exact (fo_step A.h_law_refused s_law_refused rfl rfl rfl rfl (d_law_refused K (tb n)) rfl (fun as s => tb_law_refused n as s) (av_law_refused A b)).up (by omega)
      · exact (fo_step A.h_law_refused_base s_law_refused_base rfl rfl rfl rfl (d_law_refused_base K (tb n)) rfl (fun as s => tb_law_refused_base n as s) (av_law_refused_base A b)).up (by omega)
      · exact (fo_step A.h_law_bounds_told s_law_bounds_told rfl rfl rfl rfl (d_law_bounds_told K (tb n)) rfl (fun as s => tb_law_bounds_told n as s) (av_law_bounds_told A b)).up (by omega)
      · exact (fo_step A.h_law_pair_told s_law_pair_told rfl rfl rfl rfl (d_law_pair_told K (tb n)) rfl (fun as s => tb_law_pair_told n as s) (av_law_pair_told A b)).up (by omega)
    , fun f hg => by
      have b := beh A n
      simp only [xnames, List.mem_cons, List.not_mem_nil, or_false] at hg
      rcases hg with rfl | rfl | rfl | rfl | rfl | rfl
      · exact (fog_step A.h_atoms_of s_atoms_of rfl rfl rfl rfl rfl (x_atoms_of K (tb n)) rfl (fun as s => tb_atoms_of n as s) (fun as s => tbx_atoms_of n as s) (av_atoms_of A b)).up (by omega)
      · exact (fog_step A.h_under s_under rfl rfl rfl rfl rfl (x_under K (tb n)) rfl (fun as s => tb_under n as s) (fun as s => tbx_under n as s) (av_under A b)).up (by omega)
      · exact (fog_step A.h_meet s_meet rfl rfl rfl rfl rfl (x_meet K (tb n)) rfl (fun as s => tb_meet n as s) (fun as s => tbx_meet n as s) (av_meet A b)).up (by omega)
      · exact (fog_step A.h_join s_join rfl rfl rfl rfl rfl (x_join K (tb n)) rfl (fun as s => tb_join n as s) (fun as s => tbx_join n as s) (av_join A b)).up (by omega)
      · exact (fog_step A.h_at_odds s_at_odds rfl rfl rfl rfl rfl (x_at_odds K (tb n)) rfl (fun as s => tb_at_odds n as s) (fun as s => tbx_at_odds n as s) (av_at_odds A b)).up (by omega)
      · exact (fog_step A.h_law_answer s_law_answer rfl rfl rfl rfl rfl (x_law_answer K (tb n)) rfl (fun as s => tb_law_answer n as s) (fun as s => tbx_law_answer n as s) (av_law_answer A b)).up (by omega)
    , fun f hg => by
      have b := beh A n
      simp only [hnames, List.mem_cons, List.not_mem_nil, or_false] at hg
      rcases hg with rfl | rfl
      · exact (foh_step A.h_law_same s_law_same rfl rfl rfl rfl (h_law_same K (tb n)) rfl (fun as s => tbh_law_same n as s) (avh_law_same A b)).up (by omega)
      · exact (foh_step A.h_law_is_int s_law_is_int rfl rfl rfl rfl (h_law_is_int K (tb n)) rfl (fun as s => tbh_law_is_int n as s) (avh_law_is_int A b)).up (by omega)
    , fun f hg => by
      have b := beh A n
      simp [lnames] at hg
    , fun f hg => by
      have b := beh A n
      simp [inames] at hg
    , fun f hg => by
      have b := beh A n
      simp [fnames] at hg
    , fun q hg => by
      have b := beh A n
      simp [df] at hg
    ⟩
theorem ok_law {f : Addr} {fd fdp : FuncData} {fp : Addr} (A : All P w K mg base) (F : FunD K "law" "law" (defArgs (top 30)) (defBody (top 30)) (defScope (top 30)) [] [] f fd) (Fp : FunD K "_law_pool" "_law_pool" (defArgs (top 14)) (defBody (top 14)) (defScope (top 14)) [] [] fp fdp) (hp : mg "_law_pool" = some (.ref fp)) :
    FnOk P w K mg base CX0 (4 * depth + 5) f fd ["_law_script"] (spLaw K) := by
  have Gp : FnOk P w K mg base (L2N.CX P w) 1 fp fdp ["_law_script"] (spPool K) := pool_ok Fp ⟨rfl, rfl, rfl, by decide +kernel, rfl, by decide +kernel, by decide +kernel⟩ rfl A.b_list rfl (Or.inl rfl) (by decide) (by decide)
  have bp : Binds K fdp ["_law_script"] [] := Fp.bindsN fun _ _ _ _ _ _ us hl => match us, hl with | [_], _ => rfl
  exact quiet_fn (law_ok (Γ := g_law K (tb depth)) (I := I_law) (k := 4 * depth + 3) (N := n_law.drop 2) F s_law rfl rfl rfl rfl (d_law K (tb depth)) rfl (av_law A (beh A depth)) Gp hp Fp.kp bp rfl (by first | exact Or.inl rfl | exact Or.inr (Or.inl rfl)) (by first | exact Or.inl rfl | exact Or.inr rfl) (by decide) (by decide) (by decide) (fun ns hl => true_ ns hl)) (fun _ _ _ _ z => z)
end
def dd_atoms_of : He.DefD := ⟨("atoms_of", none), "atoms_of", "atoms_of", defArgs (top 7), defBody (top 7), defScope (top 7), [], []⟩
def dd_under : He.DefD := ⟨("under", none), "under", "under", defArgs (top 8), defBody (top 8), defScope (top 8), [], []⟩
def dd_meet : He.DefD := ⟨("meet", none), "meet", "meet", defArgs (top 9), defBody (top 9), defScope (top 9), [], []⟩
def dd_join : He.DefD := ⟨("join", none), "join", "join", defArgs (top 10), defBody (top 10), defScope (top 10), [], []⟩
def dd_at_odds : He.DefD := ⟨("at_odds", none), "at_odds", "at_odds", defArgs (top 11), defBody (top 11), defScope (top 11), [], []⟩
def dd_least_with : He.DefD := ⟨("_least_with", none), "_least_with", "_least_with", defArgs (top 12), defBody (top 12), defScope (top 12), [], []⟩
def dd_law_mixed : He.DefD := ⟨("_law_mixed", none), "_law_mixed", "_law_mixed", defArgs (top 15), defBody (top 15), defScope (top 15), [], []⟩
def dd_law_draw : He.DefD := ⟨("_law_draw", none), "_law_draw", "_law_draw", defArgs (top 16), defBody (top 16), defScope (top 16), [], []⟩
def dd_law_kinds : He.DefD := ⟨("_law_kinds", none), "_law_kinds", "_law_kinds", defArgs (top 17), defBody (top 17), defScope (top 17), [], []⟩
def dd_law_atoms : He.DefD := ⟨("_law_atoms", none), "_law_atoms", "_law_atoms", defArgs (top 18), defBody (top 18), defScope (top 18), [], []⟩
def dd_law_under : He.DefD := ⟨("_law_under", none), "_law_under", "_law_under", defArgs (top 19), defBody (top 19), defScope (top 19), [], []⟩
def dd_law_word : He.DefD := ⟨("_law_word", none), "_law_word", "_law_word", defArgs (top 20), defBody (top 20), defScope (top 20), [], []⟩
def dd_law_is_int : He.DefD := ⟨("_law_is_int", none), "_law_is_int", "_law_is_int", defArgs (top 21), defBody (top 21), defScope (top 21), [], []⟩
def dd_law_same : He.DefD := ⟨("_law_same", none), "_law_same", "_law_same", defArgs (top 22), defBody (top 22), defScope (top 22), [], []⟩
def dd_law_signs : He.DefD := ⟨("_law_signs", none), "_law_signs", "_law_signs", defArgs (top 23), defBody (top 23), defScope (top 23), [], []⟩
def dd_law_near_kind : He.DefD := ⟨("_law_near_kind", none), "_law_near_kind", "_law_near_kind", defArgs (top 24), defBody (top 24), defScope (top 24), [], []⟩
def dd_law_answer : He.DefD := ⟨("_law_answer", none), "_law_answer", "_law_answer", defArgs (top 25), defBody (top 25), defScope (top 25), [], []⟩
def dd_law_refused : He.DefD := ⟨("_law_refused", none), "_law_refused", "_law_refused", defArgs (top 26), defBody (top 26), defScope (top 26), [], []⟩
def dd_law_refused_base : He.DefD := ⟨("_law_refused_base", none), "_law_refused_base", "_law_refused_base", defArgs (top 27), defBody (top 27), defScope (top 27), [], []⟩
def dd_law_bounds_told : He.DefD := ⟨("_law_bounds_told", none), "_law_bounds_told", "_law_bounds_told", defArgs (top 28), defBody (top 28), defScope (top 28), [], []⟩
def dd_law_pair_told : He.DefD := ⟨("_law_pair_told", none), "_law_pair_told", "_law_pair_told", defArgs (top 29), defBody (top 29), defScope (top 29), [], []⟩
def dd_law_pool : He.DefD := ⟨("_law_pool", none), "_law_pool", "_law_pool", defArgs (top 14), defBody (top 14), defScope (top 14), [], []⟩
def dd_law : He.DefD := ⟨("law", none), "law", "law", defArgs (top 30), defBody (top 30), defScope (top 30), [], []⟩
def fn : List He.DefD := [dd_atoms_of, dd_under, dd_meet, dd_join, dd_at_odds, dd_least_with, dd_law_mixed, dd_law_draw, dd_law_kinds, dd_law_atoms, dd_law_under, dd_law_word, dd_law_is_int, dd_law_same, dd_law_signs, dd_law_near_kind, dd_law_answer, dd_law_refused, dd_law_refused_base, dd_law_bounds_told, dd_law_pair_told, dd_law_pool, dd_law]
def fa : List He.Fa := [.glo "atoms_of", .glo "under", .glo "meet", .glo "join", .glo "at_odds", .glo "_least_with", .glo "_law_mixed", .glo "_law_draw", .glo "_law_kinds", .glo "_law_atoms", .glo "_law_under", .glo "_law_word", .glo "_law_is_int", .glo "_law_same", .glo "_law_signs", .glo "_law_near_kind", .glo "_law_answer", .glo "_law_refused", .glo "_law_refused_base", .glo "_law_bounds_told", .glo "_law_pair_told", .glo "_law_pool", .glo "law", .free "ValueError", .free "all", .free "any", .free "bool", .free "int", .free "isinstance", .free "len", .free "list", .free "min", .free "range", .free "str", .free "super", .free "tuple", .glo "BadKind", .glo "BadWay", .glo "QuickError", .glo "KINDS", .glo "ATOMS"]
def kv_ATOMS : List (Str × Tv) := [("any", (.tup [(.int 0), (.int 1), (.int 2), (.int 3), (.int 4), (.int 5)])), ("num", (.tup [(.int 0), (.int 1), (.int 2), (.int 3), (.int 4)])), ("nat", (.tup [(.int 2), (.int 3), (.int 4)])), ("small", (.tup [(.int 1), (.int 2), (.int 3)])), ("digit", (.tup [(.int 2), (.int 3)])), ("bit", (.tup [(.int 2)])), ("word", (.tup [(.int 5)]))]
def tbs : List He.Tab := [(fun K => He.ga K "ATOMS", [Str.ofString "any", Str.ofString "num", Str.ofString "nat", Str.ofString "small", Str.ofString "digit", Str.ofString "bit", Str.ofString "word"])]
def cbody : Stmt → List Stmt
  | .ClassDef (body := b) .. => b
  | _ => []
def init (i : Nat) : Stmt := (cbody (top i)).headD (.Pass ⟨0, 0, 0, 0⟩)
def er_BadKind : ErrD := ⟨"BadKind", "kind", "__init__", "BadKind.__init__", defArgs (init 2), defBody (init 2), defScope (init 2)⟩
def er : List ErrD := [er_BadKind]
abbrev bn : List (Str × String) := [("ValueError", "ValueError")]
def ex (K : PySem.W.Frag) : Bool := errsB bn es ks ts K && He.tupB K "KINDS" (([(.str "any"), (.str "num"), (.str "nat"), (.str "small"), (.str "digit"), (.str "bit"), (.str "word")] : List Cst).map dvD) && tvB K (He.ga K "ATOMS") kv_ATOMS
abbrev R : PySem.W.OpenRow := PySem.W.OpenLaw.row PySem.Challenge.rw_quickways_k02_whole_order_of_kinds
abbrev hk : PySem.W.Hook := hookU 4 R.prog fa fn er ex tbs
def ob (s : PySem.W.SharedT) : AlU := obsUG 4 R.prog fa fn er ex tbs (HandSHeadRun.getT s)
theorem ob_eq (s : PySem.W.SharedT) : ob s = hk.obs s.abs := obsUG_eq (HandSHeadRun.getT_eq s)
def loose1 : List Str := [Str.ofString "QuickError", Str.ofString "BadKind", Str.ofString "BadWay", Str.ofString "KINDS", Str.ofString "ATOMS", Str.ofString "atoms_of", Str.ofString "under", Str.ofString "meet", Str.ofString "join", Str.ofString "at_odds", Str.ofString "_least_with", Str.ofString "_law_pool", Str.ofString "_law_mixed", Str.ofString "_law_draw", Str.ofString "_law_kinds", Str.ofString "_law_atoms", Str.ofString "_law_under", Str.ofString "_law_word", Str.ofString "_law_is_int", Str.ofString "_law_same", Str.ofString "_law_signs", Str.ofString "_law_near_kind", Str.ofString "_law_answer", Str.ofString "_law_refused", Str.ofString "_law_refused_base", Str.ofString "_law_bounds_told", Str.ofString "_law_pair_told"]
def loose2 : List Str := []
theorem run_false (w : World) : HandSHeadRun.RunEq R (PySem.W.view R.prog [30]) hk ob 11300 (loose1 ++ loose2) (w.withFollow "special-get-raises" false) := by
  intro os
  kernel_rfl
theorem run_true (w : World) : HandSHeadRun.RunEq R (PySem.W.view R.prog [30]) hk ob 11300 (loose1 ++ loose2) (w.withFollow "special-get-raises" true) := by
  intro os
  kernel_rfl
theorem run (w : World) : HandSHeadRun.RunEq R (PySem.W.view R.prog [30]) hk ob 11300 (loose1 ++ loose2) w :=
  PySem.W.byRow2 "special-get-raises" (P := fun w => HandSHeadRun.RunEq R (PySem.W.view R.prog [30]) hk ob 11300 (loose1 ++ loose2) w) run_false run_true w
abbrev own : List Str := ["BadKind", "BadWay", "QuickError"]
theorem facts {w : World} {K : PySem.W.Frag} {h : Heap} {mg : Str → Option Value} {f : Addr} (X : K.In h) (G : h.Ns mainGlobals mg) (hfa : mg ("law" : Str) = some (.ref f)) (c0 : SaysU R.prog fa fn er ex tbs w K) (hlm : lmB K lmN = true) :
    ∃ fd : FuncData, (∀ (s : Shared) (v : Value), BindsTo s fd ⟨[v], []⟩ [("_law_script", v)]) ∧ ∀ base : Heap, K.In base → base.Ns mainGlobals mg → LamX.TabB base mg (lmC K lmN) (lmP K lmN) → FnOk R.prog w K mg base CX0 (4 * depth + 5) f fd ["_law_script"] (spLaw K) := by
  have c := c0.f
  obtain ⟨f0, F0⟩ := c.d.def_ 0 (d := dd_atoms_of) rfl
  have G0 := He.glo_ok X G (c.d.fact 0 (f := .glo "atoms_of") rfl)
  obtain ⟨f1, F1⟩ := c.d.def_ 1 (d := dd_under) rfl
  have G1 := He.glo_ok X G (c.d.fact 1 (f := .glo "under") rfl)
  obtain ⟨f2, F2⟩ := c.d.def_ 2 (d := dd_meet) rfl
  have G2 := He.glo_ok X G (c.d.fact 2 (f := .glo "meet") rfl)
  obtain ⟨f3, F3⟩ := c.d.def_ 3 (d := dd_join) rfl
  have G3 := He.glo_ok X G (c.d.fact 3 (f := .glo "join") rfl)
  obtain ⟨f4, F4⟩ := c.d.def_ 4 (d := dd_at_odds) rfl
  have G4 := He.glo_ok X G (c.d.fact 4 (f := .glo "at_odds") rfl)
  obtain ⟨f5, F5⟩ := c.d.def_ 5 (d := dd_least_with) rfl
  have G5 := He.glo_ok X G (c.d.fact 5 (f := .glo "_least_with") rfl)
  obtain ⟨f6, F6⟩ := c.d.def_ 6 (d := dd_law_mixed) rfl
  have G6 := He.glo_ok X G (c.d.fact 6 (f := .glo "_law_mixed") rfl)
  obtain ⟨f7, F7⟩ := c.d.def_ 7 (d := dd_law_draw) rfl
  have G7 := He.glo_ok X G (c.d.fact 7 (f := .glo "_law_draw") rfl)
  obtain ⟨f8, F8⟩ := c.d.def_ 8 (d := dd_law_kinds) rfl
  have G8 := He.glo_ok X G (c.d.fact 8 (f := .glo "_law_kinds") rfl)
  obtain ⟨f9, F9⟩ := c.d.def_ 9 (d := dd_law_atoms) rfl
  have G9 := He.glo_ok X G (c.d.fact 9 (f := .glo "_law_atoms") rfl)
  obtain ⟨f10, F10⟩ := c.d.def_ 10 (d := dd_law_under) rfl
  have G10 := He.glo_ok X G (c.d.fact 10 (f := .glo "_law_under") rfl)
  obtain ⟨f11, F11⟩ := c.d.def_ 11 (d := dd_law_word) rfl
  have G11 := He.glo_ok X G (c.d.fact 11 (f := .glo "_law_word") rfl)
  obtain ⟨f12, F12⟩ := c.d.def_ 12 (d := dd_law_is_int) rfl
  have G12 := He.glo_ok X G (c.d.fact 12 (f := .glo "_law_is_int") rfl)
  obtain ⟨f13, F13⟩ := c.d.def_ 13 (d := dd_law_same) rfl
  have G13 := He.glo_ok X G (c.d.fact 13 (f := .glo "_law_same") rfl)
  obtain ⟨f14, F14⟩ := c.d.def_ 14 (d := dd_law_signs) rfl
  have G14 := He.glo_ok X G (c.d.fact 14 (f := .glo "_law_signs") rfl)
  obtain ⟨f15, F15⟩ := c.d.def_ 15 (d := dd_law_near_kind) rfl
  have G15 := He.glo_ok X G (c.d.fact 15 (f := .glo "_law_near_kind") rfl)
  obtain ⟨f16, F16⟩ := c.d.def_ 16 (d := dd_law_answer) rfl
  have G16 := He.glo_ok X G (c.d.fact 16 (f := .glo "_law_answer") rfl)
  obtain ⟨f17, F17⟩ := c.d.def_ 17 (d := dd_law_refused) rfl
  have G17 := He.glo_ok X G (c.d.fact 17 (f := .glo "_law_refused") rfl)
  obtain ⟨f18, F18⟩ := c.d.def_ 18 (d := dd_law_refused_base) rfl
  have G18 := He.glo_ok X G (c.d.fact 18 (f := .glo "_law_refused_base") rfl)
  obtain ⟨f19, F19⟩ := c.d.def_ 19 (d := dd_law_bounds_told) rfl
  have G19 := He.glo_ok X G (c.d.fact 19 (f := .glo "_law_bounds_told") rfl)
  obtain ⟨f20, F20⟩ := c.d.def_ 20 (d := dd_law_pair_told) rfl
  have G20 := He.glo_ok X G (c.d.fact 20 (f := .glo "_law_pair_told") rfl)
  obtain ⟨f21, F21⟩ := c.d.def_ 21 (d := dd_law_pool) rfl
  have G21 := He.glo_ok X G (c.d.fact 21 (f := .glo "_law_pool") rfl)
  obtain ⟨f22, F22⟩ := c.d.def_ 22 (d := dd_law) rfl
  have G22 := He.glo_ok X G (c.d.fact 22 (f := .glo "law") rfl)
  have B0 := He.free_ok X G (c.d.fact 23 (f := .free "ValueError") rfl)
  have B1 := He.free_ok X G (c.d.fact 24 (f := .free "all") rfl)
  have B2 := He.free_ok X G (c.d.fact 25 (f := .free "any") rfl)
  have B3 := He.free_ok X G (c.d.fact 26 (f := .free "bool") rfl)
  have B4 := He.free_ok X G (c.d.fact 27 (f := .free "int") rfl)
  have B5 := He.free_ok X G (c.d.fact 28 (f := .free "isinstance") rfl)
  have B6 := He.free_ok X G (c.d.fact 29 (f := .free "len") rfl)
  have B7 := He.free_ok X G (c.d.fact 30 (f := .free "list") rfl)
  have B8 := He.free_ok X G (c.d.fact 31 (f := .free "min") rfl)
  have B9 := He.free_ok X G (c.d.fact 32 (f := .free "range") rfl)
  have B10 := He.free_ok X G (c.d.fact 33 (f := .free "str") rfl)
  have B11 := He.free_ok X G (c.d.fact 34 (f := .free "super") rfl)
  have B12 := He.free_ok X G (c.d.fact 35 (f := .free "tuple") rfl)
  have O0 := He.glo_ok X G (c.d.fact 36 (f := .glo "BadKind") rfl)
  have O1 := He.glo_ok X G (c.d.fact 37 (f := .glo "BadWay") rfl)
  have O2 := He.glo_ok X G (c.d.fact 38 (f := .glo "QuickError") rfl)
  have C0 := He.glo_ok X G (c.d.fact 39 (f := .glo "KINDS") rfl)
  have E := c.ex
  unfold ex at E
  have D0 := He.glo_ok X G (c.d.fact 40 (f := .glo "ATOMS") rfl)
  simp only [Bool.and_eq_true] at E
  obtain ⟨⟨E0, T0⟩, U0⟩ := E
  obtain ⟨e0a, e0b⟩ := c.e.err 0 (d := er_BadKind) rfl
  have A : ∀ base : Heap, LamX.TabB base mg (lmC K lmN) (lmP K lmN) → All R.prog w K mg base := fun base tbb => ⟨
    ⟨_, f0, _, F0, G0, FunD.bindsN (ps := ["kind"]) F0 fun _ _ _ _ _ _ us hl => match us, hl with | [_], _ => rfl⟩,
    ⟨_, f1, _, F1, G1, FunD.bindsN (ps := ["kind", "other"]) F1 fun _ _ _ _ _ _ us hl => match us, hl with | [_, _], _ => rfl⟩,
    ⟨_, f2, _, F2, G2, FunD.bindsN (ps := ["kind", "other"]) F2 fun _ _ _ _ _ _ us hl => match us, hl with | [_, _], _ => rfl⟩,
    ⟨_, f3, _, F3, G3, FunD.bindsN (ps := ["kind", "other"]) F3 fun _ _ _ _ _ _ us hl => match us, hl with | [_, _], _ => rfl⟩,
    ⟨_, f4, _, F4, G4, FunD.bindsN (ps := ["kind", "other"]) F4 fun _ _ _ _ _ _ us hl => match us, hl with | [_, _], _ => rfl⟩,
    ⟨_, f5, _, F5, G5, FunD.bindsN (ps := ["atoms"]) F5 fun _ _ _ _ _ _ us hl => match us, hl with | [_], _ => rfl⟩,
    ⟨_, f6, _, F6, G6, FunD.bindsN (ps := ["_law_cell", "_law_turn", "_law_limit"]) F6 fun _ _ _ _ _ _ us hl => match us, hl with | [_, _, _], _ => rfl⟩,
    ⟨_, f7, _, F7, G7, FunD.bindsN (ps := ["_law_pool_here", "_law_limit"]) F7 fun _ _ _ _ _ _ us hl => match us, hl with | [_, _], _ => rfl⟩,
    ⟨_, f8, _, F8, G8, FunD.bindsN (ps := []) F8 fun _ _ _ _ _ _ us hl => match us, hl with | [], _ => rfl⟩,
    ⟨_, f9, _, F9, G9, FunD.bindsN (ps := ["_law_kind"]) F9 fun _ _ _ _ _ _ us hl => match us, hl with | [_], _ => rfl⟩,
    ⟨_, f10, _, F10, G10, FunD.bindsN (ps := ["_law_kind", "_law_other"]) F10 fun _ _ _ _ _ _ us hl => match us, hl with | [_, _], _ => rfl⟩,
    ⟨_, f11, _, F11, G11, FunD.bindsN (ps := ["_law_pool_here", "_law_first", "_law_signs_here", "_law_more"]) F11 fun _ _ _ _ _ _ us hl => match us, hl with | [_, _, _, _], _ => rfl⟩,
    ⟨_, f12, _, F12, G12, FunD.bindsN (ps := ["_law_thing"]) F12 fun _ _ _ _ _ _ us hl => match us, hl with | [_], _ => rfl⟩,
    ⟨_, f13, _, F13, G13, FunD.bindsN (ps := ["_law_mine", "_law_due"]) F13 fun _ _ _ _ _ _ us hl => match us, hl with | [_, _], _ => rfl⟩,
    ⟨_, f14, _, F14, G14, FunD.bindsN (ps := []) F14 fun _ _ _ _ _ _ us hl => match us, hl with | [], _ => rfl⟩,
    ⟨_, f15, _, F15, G15, FunD.bindsN (ps := ["_law_pool_here"]) F15 fun _ _ _ _ _ _ us hl => match us, hl with | [_], _ => rfl⟩,
    ⟨_, f16, _, F16, G16, FunD.bindsN (ps := ["_law_way", "_law_kind", "_law_other"]) F16 fun _ _ _ _ _ _ us hl => match us, hl with | [_, _, _], _ => rfl⟩,
    ⟨_, f17, _, F17, G17, FunD.bindsN (ps := ["_law_way", "_law_kind", "_law_other", "_law_due"]) F17 fun _ _ _ _ _ _ us hl => match us, hl with | [_, _, _, _], _ => rfl⟩,
    ⟨_, f18, _, F18, G18, FunD.bindsN (ps := ["_law_way", "_law_kind", "_law_other"]) F18 fun _ _ _ _ _ _ us hl => match us, hl with | [_, _, _], _ => rfl⟩,
    ⟨_, f19, _, F19, G19, FunD.bindsN (ps := ["_law_kind", "_law_other", "_law_lower", "_law_upper"]) F19 fun _ _ _ _ _ _ us hl => match us, hl with | [_, _, _, _], _ => rfl⟩,
    ⟨_, f20, _, F20, G20, FunD.bindsN (ps := ["_law_kind", "_law_other"]) F20 fun _ _ _ _ _ _ us hl => match us, hl with | [_, _], _ => rfl⟩,
    B0,
    B1,
    B2,
    B3,
    B4,
    B5,
    B6,
    B7,
    B8,
    B9,
    B10,
    B11,
    B12,
    hlm,
    tbb,
    G5,
    (fun q hq => by
      simp only [kd, List.mem_cons, List.not_mem_nil, or_false] at hq
      subst hq
      exact dct_at (kvs := kv_ATOMS) D0 (c0.keys 0 rfl) U0),
    (fun k q hq => by
      simp only [es, List.mem_cons, List.not_mem_nil, or_false] at hq
      subst hq
      exact errFo_of (d := er_BadKind) (sn := "self") (x := "kind") e0a e0b O0 B11 (by kernel_rfl) (by refine ⟨rfl, rfl, rfl, by decide +kernel, rfl, by decide +kernel, by decide +kernel, by decide +kernel, by decide +kernel⟩) rfl rfl rfl rfl (.lit (.fmt .nil)) (by decide +kernel) (by decide) (by decide) (by decide) (by decide) (by intro _; rfl) (by intro _; rfl) (by intro _; rfl) (fun doc pm ct us hl => match us, hl with | [_, _], _ => rfl)),
    (fun Γ h1 h2 h3 h4 => errFacts_of own bn (by rw [h1, h2, h3]; exact E0) (fun x hx => by
      simp only [own, List.mem_cons, List.not_mem_nil, or_false] at hx
      rcases hx with rfl | rfl | rfl
      · exact O0
      · exact O1
      · exact O2) (by rw [h1]; rfl) (by rw [h2]; rfl) (by rw [h3]; rfl) (fun x n hx => by
      simp only [bn, List.lookup] at hx
      split at hx
      · rename_i he
        cases hx
        have he := beq_iff_eq.mp he
        subst he
        exact ⟨B0, by decide +kernel, by decide⟩
      · cases hx) (fun q hq => by
      rw [h4] at hq
      simp only [gs, List.mem_cons, List.not_mem_nil, or_false] at hq
      subst hq
      exact gc_tup [(.str "any"), (.str "num"), (.str "nat"), (.str "small"), (.str "digit"), (.str "bit"), (.str "word")] C0 T0))⟩
  have e := hfa.symm.trans G22
  cases e
  have b := FunD.bindsA (ps := ["_law_script"]) F22 fun _ _ _ _ _ _ us hl => match us, hl with | [_], _ => rfl
  exact ⟨f22, fun s v => b s [v] rfl, fun base _ _ tbb => ok_law (A base tbb) F22 F21 G21⟩
end K02
open PySem PySem.W PySem.Calls PyProof.Rows
theorem PySem.Challenge.cw_quickways_k02_whole_order_of_kinds_holds : PySem.Challenge.rw_quickways_k02_whole_order_of_kinds.Holds := by
  w_on; o_law
  refine HandSHeadRun.head_any (r := OpenLaw.row PySem.Challenge.rw_quickways_k02_whole_order_of_kinds) (q := view (OpenLaw.row PySem.Challenge.rw_quickways_k02_whole_order_of_kinds).prog [30]) (H := K02.hk) (ob := K02.ob) (M := 11300) (loose := K02.loose1 ++ K02.loose2) (d := HandSHeadRun.topDef (OpenLaw.row PySem.Challenge.rw_quickways_k02_whole_order_of_kinds).prog 30) (kwd := []) K02.ob_eq
    (by kernel_rfl) (fun s => by kernel_rfl) K02.run (by kernel_rfl) (by kernel_rfl) (by kernel_rfl) (by rfl) (by first | assumption | decide +kernel) (by decide +kernel) ⟨rfl, rfl, rfl, rfl, rfl, by decide +kernel⟩ ?hw ?hc
  case hw => w_witness2
  case hc =>
    refine LamX.walk_ofTsE (l := PySem.Challenge.rw_quickways_k02_whole_order_of_kinds) (n := 63) (k := 4 * K02.depth + 5) (x := "_law_script") (CX := fun _ => L2.CX0) rfl (by decide) (by kernel_rfl) ⟨rfl, by decide, by decide⟩ ?F (fun _ _ _ _ _ z => z)
    intro w mg fa h Y G hmg0
    obtain ⟨K, KX, c, hlm, hem⟩ := Y
    have hmg : mg ("law" : PySem.Str) = some (.ref fa) := by
      have e : (HandSHeadRun.topDef (OpenLaw.row PySem.Challenge.rw_quickways_k02_whole_order_of_kinds).prog 30).name = ("law" : PySem.Str) := by kernel_rfl
      rw [← e]
      exact hmg0
    obtain ⟨fd, hb, hF⟩ := K02.facts (w := w) KX G hmg c hlm
    have ok := Ip.lmB_ok hlm
    refine ⟨K, KX, fd, [(Ip.lmC K Ip.lmN, Ip.lmP K Ip.lmN)], Ip.spLaw K, fun p hp => ?_, fun p hp => ?_, fun p hp => ?_, hb, fun H a ns hl _ hT hS => ⟨a, ns, rfl, hS, hl, fun q hq => ?_, fun _ => rfl⟩, fun base h1 h2 TB => hF base h1 h2 (TB _ List.mem_cons_self)⟩
    · rw [List.mem_singleton.mp hp]
      exact hem
    · rw [List.mem_singleton.mp hp]
      exact ok.1
    · rw [List.mem_singleton.mp hp]
      exact ok.2.2 h KX
    · rw [List.mem_singleton.mp hq]
      exact LamX.TabS.nil (hT _ List.mem_cons_self)

