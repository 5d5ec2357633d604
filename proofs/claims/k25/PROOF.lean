import PyProof.Rows.All
import Wide.All
import OpenK.AllK
import Wide.FinOn
import HandS.ForMost
import HandS.TupAny
import HandS.IsInst
import HandS.Text
import HandS.StrMore
import KE.SortData
import KE.DataMinMax
import KE.KExcSuper
import HandS.ExcInit
import HandS.ExcOwn
import HandS.WordsExc
import HandS.Nested
import HandS.FStr
import HandS.ExcCtx
import HandS.HotCalls
import HandS.ExcInitHot
import HandS.HeadHook1
import HandS.HeadHook2
import KE.KIsAll
import KE.KTryMore
import HandS.ExcIs
import HandS.ExcField
import HandS.NoneIn
import HandS.GenList
import HandS.Iter
import KE.GoesNew
import HandS.Walk
import HandS.Defaults
import HandS.More
import HandS.Head0
import HandS.Head1
import HandS.Head2
import HandS.HeadEnd
import HandS.Style
import PyProof.Rows.TmSorted
import HandS.SortKw
import PySem.Challenge.RW_quickways_k25_whole_next_picks_go_throug
import PyProof.P3Eq
set_option Elab.async false
set_option linter.all false
set_option maxRecDepth 100000
set_option maxHeartbeats 4000000
/-! Data over the hand layer: values by what they hold, the heap in three parts (known, lent out, own). -/
namespace Ip
open PySem L2
abbrev D := PyData
/-- every known object stays -/
def Ex (H H' : Hp) : Prop := ∀ a o, H a = some o → H' a = some o
theorem Ex.refl (H : Hp) : Ex H H := fun _ _ h => h
theorem Ex.trans {H H1 H2 : Hp} (a : Ex H H1) (b : Ex H1 H2) : Ex H H2 := fun x o h => b x o (a x o h)
theorem Ex.new {H : Hp} {q : Addr} {o : HO} (h : H q = none) : Ex H (upd H q o) := fun a u e => by
  rw [upd_ne (ne_of_none e h)]
  exact e
theorem Ex.free {H H' : Hp} {q : Addr} (e : Ex H H') (h : H' q = none) : H q = none := by
  cases h1 : H q with
  | none => rfl
  | some o =>
    rw [e q o h1] at h
    cases h
theorem Ex.up {B H : Hp} {q : Addr} {o : HO} (e : Ex B H) : Ex (upd B q o) (upd H q o) := fun a u h => by
  by_cases ha : a = q
  · subst ha
    rw [upd_same] at h ⊢
    exact h
  · rw [upd_ne ha] at h ⊢
    exact e a u h
theorem Ex.right {B H : Hp} {q : Addr} {o : HO} (e : Ex B H) (h : B q = none) : Ex B (upd H q o) := fun a u ha => by
  rw [upd_ne (ne_of_none ha h)]
  exact e a u ha
/-! ### what a value holds -/
mutual
inductive Rp (K : PySem.W.Frag) (B : Hp) : V → D → Prop
  | non : Rp K B .non .none
  | bl (b : Bool) : Rp K B (.bl b) (.bool b)
  | int (i : Int) : Rp K B (.int i) (.int i)
  | str (x : Str) : Rp K B (.str x) (.str x)
  | lst {a : Addr} {xs : List V} {ds : List D} : B a = some (.lst xs) → RpA K B xs ds → Rp K B (.ref a) (.list ds)
  | tup {a : Addr} {xs : List V} {ds : List D} : SqT K B a xs → RpA K B xs ds → Rp K B (.ref a) (.tuple ds)
inductive RpA (K : PySem.W.Frag) (B : Hp) : List V → List D → Prop
  | nil : RpA K B [] []
  | cons {v : V} {vs : List V} {d : D} {ds : List D} : Rp K B v d → RpA K B vs ds → RpA K B (v :: vs) (d :: ds)
end
theorem sqt_mono {K : PySem.W.Frag} {B B' : Hp} (e : Ex B B') {a : Addr} {xs : List V} (h : SqT K B a xs) : SqT K B' a xs := by
  rcases h with (h | ⟨o, h⟩) | h
  · exact .inl (.inl (e _ _ h))
  · exact .inl (.inr ⟨o, e _ _ h⟩)
  · exact .inr h
mutual
theorem Rp.mono {K : PySem.W.Frag} {B B' : Hp} (e : Ex B B') : ∀ {d : D} {v : V}, Rp K B v d → Rp K B' v d
  | _, _, .non => .non
  | _, _, .bl b => .bl b
  | _, _, .int i => .int i
  | _, _, .str x => .str x
  | _, _, .lst h r => .lst (e _ _ h) (RpA.mono e r)
  | _, _, .tup h r => .tup (sqt_mono e h) (RpA.mono e r)
theorem RpA.mono {K : PySem.W.Frag} {B B' : Hp} (e : Ex B B') : ∀ {ds : List D} {vs : List V}, RpA K B vs ds → RpA K B' vs ds
  | _, _, .nil => .nil
  | _, _, .cons h r => .cons (Rp.mono e h) (RpA.mono e r)
end
section
variable {K : PySem.W.Frag} {B : Hp}
theorem RpA.length : ∀ {vs : List V} {ds : List D}, RpA K B vs ds → vs.length = ds.length
  | _, _, .nil => rfl
  | _, _, .cons _ r => congrArg Nat.succ (RpA.length r)
theorem RpA.append : ∀ {vs us : List V} {ds es : List D}, RpA K B vs ds → RpA K B us es → RpA K B (vs ++ us) (ds ++ es)
  | _, _, _, _, .nil, s => s
  | _, _, _, _, .cons h r, s => .cons h (RpA.append r s)
theorem RpA.get : ∀ {vs : List V} {ds : List D} {i : Nat} {d : D}, RpA K B vs ds → ds[i]? = some d → ∃ v, vs[i]? = some v ∧ Rp K B v d
  | _, _, _, _, .nil, e => by simp at e
  | _, _, 0, _, .cons h _, e => by simp at e; subst e; exact ⟨_, rfl, h⟩
  | _, _, i + 1, d, .cons _ r, e => by
    obtain ⟨v, h1, h2⟩ := RpA.get (i := i) (d := d) r (by simpa using e)
    exact ⟨v, by simpa using h1, h2⟩
theorem RpA.getV : ∀ {vs : List V} {ds : List D} {i : Nat} {v : V}, RpA K B vs ds → vs[i]? = some v → ∃ d, ds[i]? = some d ∧ Rp K B v d
  | _, _, _, _, .nil, e => by simp at e
  | _, _, 0, _, .cons h _, e => by simp at e; subst e; exact ⟨_, rfl, h⟩
  | _, _, i + 1, v, .cons _ r, e => by
    obtain ⟨d, h1, h2⟩ := RpA.getV (i := i) (v := v) r (by simpa using e)
    exact ⟨d, by simpa using h1, h2⟩
theorem RpA.take : ∀ {vs : List V} {ds : List D} (n : Nat), RpA K B vs ds → RpA K B (vs.take n) (ds.take n)
  | _, _, 0, _ => .nil
  | _, _, _ + 1, .nil => .nil
  | _, _, n + 1, .cons h r => .cons h (RpA.take n r)
theorem RpA.drop : ∀ {vs : List V} {ds : List D} (n : Nat), RpA K B vs ds → RpA K B (vs.drop n) (ds.drop n)
  | _, _, 0, r => r
  | _, _, _ + 1, .nil => .nil
  | _, _, n + 1, .cons _ r => RpA.drop n r
theorem RpA.set : ∀ {vs : List V} {ds : List D} {v : V} {d : D} (i : Nat), RpA K B vs ds → Rp K B v d → RpA K B (vs.set i v) (ds.set i d)
  | _, _, _, _, _, .nil, _ => .nil
  | _, _, _, _, 0, .cons _ r, h => .cons h r
  | _, _, _, _, i + 1, .cons h0 r, h => .cons h0 (RpA.set i r h)
theorem RpA.one {v : V} {d : D} (h : Rp K B v d) : RpA K B [v] [d] := .cons h .nil
mutual
theorem Rp.dp {H : Hp} (e : Ex B H) : ∀ {d : D} {v : V}, Rp K B v d → Dp K H v d
  | _, _, .non => .non
  | _, _, .bl b => .bl b
  | _, _, .int i => .int i
  | _, _, .str x => .str x
  | _, _, .lst h r => .lst (Or.inl (Or.inl (e _ _ h))) (RpA.dp e r)
  | _, _, .tup h r => .tup (sqt_mono e h) (RpA.dp e r)
theorem RpA.dp {H : Hp} (e : Ex B H) : ∀ {ds : List D} {vs : List V}, RpA K B vs ds → DpAll K H vs ds
  | _, _, .nil => .nil
  | _, _, .cons h r => .cons (Rp.dp e h) (RpA.dp e r)
end
end
/-! ### the pool of draws -/
/-- where it stands, and where its script -/
structure Pa where
  a : Addr
  q : Addr
  /-- a caught error: its object, its dict, its class, its field -/
  lk : Addr → Addr → Str → Str → Prop
  /-- the slot of a list that the caller gets back changed, and where it stands -/
  io : Option (Nat × Addr)
  /-- what is returned is a new list (or None) -/
  fr : Bool
instance : Coe Pa Addr := ⟨Pa.a⟩
structure Pl where
  ns : List Int
  i : Int
  r : Int
  c : Int
  l : Int
def PlAt (B H : Hp) (p : Pa) (s : Pl) : Prop := H p = some (.lst [.ref p.q, .int s.i, .int s.r, .int s.c, .int s.l]) ∧ B p.q = some (.lst (s.ns.map V.int))
/-! ### the heap in parts: B is known and stays; F is the callers' own; the pool stands at p -/
structure Bs (p : Pa) (st : Pl) (B F H : Hp) : Prop where
  b : Ex B H
  f : Ex F H
  d : ∀ a o, F a = some o → B a = none
  pf : F p = none
  pb : B p = none
  pl : PlAt B H p st
theorem Bs.pn {p : Pa} {st : Pl} {B F H : Hp} (w : Bs p st B F H) {q : Addr} (h : H q = none) : q ≠ p := fun e => by
  obtain ⟨h1, _⟩ := w.pl
  rw [e, h1] at h
  cases h
/-- a new object is known -/
theorem Bs.new {p : Pa} {st : Pl} {B F H : Hp} (w : Bs p st B F H) {q : Addr} {o : HO} (h : H q = none) : Bs p st (upd B q o) F (upd H q o) where
  b := w.b.up
  f := w.f.right (w.f.free h)
  d := fun a u e => by
    rw [upd_ne (ne_of_none e (w.f.free h))]
    exact w.d a u e
  pf := w.pf
  pb := by
    rw [upd_ne (fun e => w.pn h e.symm)]
    exact w.pb
  pl := by
    obtain ⟨h1, h2⟩ := w.pl
    exact ⟨by rw [upd_ne (fun e => w.pn h e.symm)]; exact h1, by rw [upd_ne (ne_of_none h2 (w.b.free h))]; exact h2⟩
/-! ### names of a def -/
inductive Sl where
  | no
  | im (d : D)
  | ow (ds : List D)
  | pl
  | er (c : Str) (v : D)
def SlR (K : PySem.W.Frag) (p : Pa) (B M : Hp) : Sl → Option V → Prop
  | .no, _ => True
  | .im d, some v => Rp K B v d
  | .im _, none => False
  | .ow ds, some (.ref a) => ∃ xs, M a = some (.lst xs) ∧ RpA K B xs ds
  | .ow _, _ => False
  | .pl, some (.ref a) => a = p
  | .pl, _ => False
  | .er c v, o => ∃ (a dd : Addr) (f : Str) (u : V), o = some (.ref a) ∧ p.lk a dd c f ∧ B dd = some (.xd [(f, u)]) ∧ Rp K B u v
structure EnR (K : PySem.W.Frag) (p : Pa) (B M : Hp) (env : List Sl) (σ : L2.St) : Prop where
  len : env.length = σ.length
  at_ : ∀ (i : Nat) (s : Sl), env[i]? = some s → ∃ o : Option V, σ[i]? = some o ∧ SlR K p B M s o
  ap : ∀ (i j : Nat) (ds es : List D) (a : Addr), env[i]? = some (.ow ds) → env[j]? = some (.ow es) → σ[i]? = some (some (.ref a)) → σ[j]? = some (some (.ref a)) → i = j
  io : ∀ (i : Nat) (a : Addr) (ds : List D), p.io = some (i, a) → env[i]? = some (.ow ds) → σ[i]? = some (some (.ref a))
structure Rel (K : PySem.W.Frag) (p : Pa) (st : Pl) (B M F : Hp) (env : List Sl) (σ : L2.St) (H : Hp) : Prop where
  bs : Bs p st B F H
  m : Ex M H
  md : ∀ a o, M a = some o → B a = none ∧ F a = none ∧ a ≠ p
  en : EnR K p B M env σ
section
variable {K : PySem.W.Frag} {p : Pa} {st : Pl} {B M F : Hp} {env : List Sl} {σ : L2.St} {H : Hp}
theorem SlR.mono {B' : Hp} (e : Ex B B') : ∀ {s : Sl} {o : Option V}, SlR K p B M s o → SlR K p B' M s o
  | .no, _, _ => True.intro
  | .im _, some _, h => Rp.mono e h
  | .im _, none, h => h
  | .ow _, some (.ref _), h => by
    obtain ⟨xs, h1, h2⟩ := h
    exact ⟨xs, h1, h2.mono e⟩
  | .ow _, some .non, h | .ow _, some (.bl _), h | .ow _, some (.int _), h | .ow _, some (.str _), h | .ow _, some (.byt _), h | .ow _, some (.flt _), h | .ow _, some (.ty _), h | .ow _, none, h => h
  | .pl, some (.ref _), h => h
  | .pl, some .non, h | .pl, some (.bl _), h | .pl, some (.int _), h | .pl, some (.str _), h | .pl, some (.byt _), h | .pl, some (.flt _), h | .pl, some (.ty _), h | .pl, none, h => h
  | .er _ _, _, h => by
    obtain ⟨a, dd, f, u, h1, h2, h3, h4⟩ := h
    exact ⟨a, dd, f, u, h1, h2, e _ _ h3, h4.mono e⟩
theorem EnR.mono {B' : Hp} (e : Ex B B') (h : EnR K p B M env σ) : EnR K p B' M env σ := ⟨h.len, fun i s hi => by
  obtain ⟨o, h1, h2⟩ := h.at_ i s hi
  exact ⟨o, h1, h2.mono e⟩, h.ap, h.io⟩
/-- a new object is known -/
theorem Rel.new (r : Rel K p st B M F env σ H) {q : Addr} {o : HO} (h : H q = none) : Rel K p st (upd B q o) M F env σ (upd H q o) where
  bs := r.bs.new h
  m := r.m.right (r.m.free h)
  md := fun a u e => by
    obtain ⟨h1, h2, h3⟩ := r.md a u e
    refine ⟨?_, h2, h3⟩
    rw [upd_ne (ne_of_none e (r.m.free h))]
    exact h1
  en := r.en.mono (Ex.new (r.bs.b.free h))
/-- the two own parts as one: what a callee leaves alone -/
def uni (M F : Hp) : Hp := fun a => match M a with
  | some o => some o
  | none => F a
theorem uni_l {M F : Hp} {a : Addr} {o : HO} (h : M a = some o) : uni M F a = some o := by unfold uni; rw [h]
theorem uni_r {M F : Hp} {a : Addr} (h : M a = none) : uni M F a = F a := by unfold uni; rw [h]
theorem uni_cases {M F : Hp} {a : Addr} {o : HO} (h : uni M F a = some o) : M a = some o ∨ (M a = none ∧ F a = some o) := by
  cases e : M a with
  | some u => rw [uni_l e] at h; exact .inl h
  | none => rw [uni_r e] at h; exact .inr ⟨rfl, h⟩
theorem Rel.call (r : Rel K p st B M F env σ H) : Bs p st B (uni M F) H where
  b := r.bs.b
  f := fun a o h => by
    rcases uni_cases h with h | ⟨_, h⟩
    · exact r.m a o h
    · exact r.bs.f a o h
  d := fun a o h => by
    rcases uni_cases h with h | ⟨_, h⟩
    · exact (r.md a o h).1
    · exact r.bs.d a o h
  pf := by
    cases e : uni M F p with
    | none => rfl
    | some o =>
      rcases uni_cases e with h | ⟨_, h⟩
      · exact absurd rfl (r.md p o h).2.2
      · rw [r.bs.pf] at h
        cases h
  pb := r.bs.pb
  pl := r.bs.pl
theorem Rel.back {st' : Pl} {B' H' : Hp} (r : Rel K p st B M F env σ H) (e : Ex B B') (w : Bs p st' B' (uni M F) H') : Rel K p st' B' M F env σ H' where
  bs := ⟨w.b, fun a o h => w.f a o (by
      cases e1 : M a with
      | none => rw [uni_r e1]; exact h
      | some u =>
        have := (r.md a u e1).2.1
        rw [this] at h
        cases h), fun a o h => w.d a o (by
      cases e1 : M a with
      | none => rw [uni_r e1]; exact h
      | some u =>
        have := (r.md a u e1).2.1
        rw [this] at h
        cases h), r.bs.pf, w.pb, w.pl⟩
  m := fun a o h => w.f a o (uni_l h)
  md := fun a o h => ⟨w.d a o (uni_l h), (r.md a o h).2⟩
  en := r.en.mono e
end
end Ip

set_option Elab.async false
set_option linter.all false
set_option maxRecDepth 100000
set_option maxHeartbeats 4000000
/-! The program's own text in short (IE, IS), and what it comes to over data. -/
namespace Ip
open PySem L2
inductive Cst where
  | non | bl (b : Bool) | int (i : Int) | str (s : Str)
inductive Bop where
  | add | sub | mul | fdv | mod | pow
inductive Bi where
  | len | int | str | tuple | list | all | any
inductive Ty where
  | int | bool | str | list | tuple
inductive Cop where
  | eq | ne | lt | le | gt | ge | isin | notin | isN | noN
/-- methods of texts -/
inductive M0 where
  | lower | upper
inductive M1 where
  | removeprefix | join
mutual
inductive IE where
  | var (i : Nat)
  | cst (c : Cst)
  | call (f : Str) (as : IEs)
  | bi (f : Bi) (as : IEs)
  | bin (o : Bop) (a b : IE)
  | cmp (o : Cop) (a b : IE)
  | and (a b : IE)
  | or (a b : IE)
  | not (a : IE)
  | neg (a : IE)
  | tup (es : IEs)
  | lst (es : IEs)
  | ix (a b : IE)
  | sl (a : IE) (lo hi : IO)
  | ifx (c a b : IE)
  | lc (j : Nat) (it : IT) (cs : IEs) (e : IE)
  | olen (i : Nat)
  | pix (i k : Nat)
  | pcel (i : Nat)
  | plen (i : Nat)
  | isi (t : Ty) (e : IE)
  | lent (is : List Nat) (e : IE)
  | chn (o1 o2 : Cop) (a b c : IE)
  | js (es : IEs)
  | rev (e : IE)
  | exf (j : Nat) (cs : List Str)
  | exi (j : Nat) (cs yes : List Str)
  | con (d : D)
  | qt (e : IE)
  | calld (f : Str) (as : IEs) (cs : List Cst)
  | me0 (m : M0) (e : IE)
  | me1 (m : M1) (a b : IE)
  | tsr (i : Nat)
  | stop
  | mx2 (a b : IE)
  | mn2 (a b : IE)
  | mxl (e : IE) (d : Option Int)
  | srt (e : IE)
  | tru (e : IE)
  | rep (a b : IE)
  | lcm (js : List Nat) (it : IT) (cs : IEs) (e : IE)
inductive IEs where
  | nil
  | cons (e : IE) (es : IEs)
  | pool (i : Nat) (es : IEs)
inductive IO where
  | non
  | some (e : IE)
inductive IT where
  | seq (e : IE)
  | rng1 (e : IE)
  | rng2 (a b : IE)
  | rng3 (a b : IE)
  | enm (e : IE)
  | zp (a b : IE)
end
inductive Sg where
  | one (j : Nat)
  | many (js : List Nat)
mutual
inductive IS where
  | set (i : Nat) (e : IE)
  | own (i : Nat) (e : IE)
  | unp (js : List Nat) (e : IE)
  | app (i : Nat) (e : IE)
  | ext (i : Nat) (e : IE)
  | pput (i k : Nat) (e : IE)
  | iff (c : IE) (a b : ISs)
  | forr (j : Sg) (it : IT) (b : ISs)
  | ret (e : IE)
  | retN
  | drop (e : IE)
  | brk
  | cnt
  | frz (is : List Nat) (s : IS)
  | aug (i : Nat) (o : Bop) (e : IE)
  | stop
  | rse (c : Str) (e : IE)
  | tri (b : ISs) (cs : List Str) (j : Nat) (u : ISs)
  | calm (s : IS)
  | whl (c : IE)
  | ownl (is : List Nat) (j : Nat) (e : IE)
  | retf (e : IE)
  | dropc (f : Str) (as : IEs) (i : Nat)
  | setf (j : Nat) (f : Str) (as : IEs)
  | oset (i k : Nat) (e : IE)
inductive ISs where
  | nil
  | cons (s : IS) (r : ISs)
end
/-! ### over data -/
abbrev Cl := Str → List (Option D) → Pl → Option (D × Pl)
def Cst.d : Cst → D
  | .non => .none
  | .bl b => .bool b
  | .int i => .int i
  | .str s => .str s
def most : Nat := 100000
def binD : Bop → D → D → Option D
  | .add, .int i, .int j => some (.int (i + j))
  | .add, .str s, .str t => if s.length + t.length ≤ most then some (.str (s ++ t)) else none
  | .add, .list xs, .list ys => if xs.length + ys.length ≤ most then some (.list (xs ++ ys)) else none
  | .add, .tuple xs, .tuple ys => if xs.length + ys.length ≤ most then some (.tuple (xs ++ ys)) else none
  | .sub, .int i, .int j => some (.int (i - j))
  | .mul, .int i, .int j => if i.natAbs < 2 ^ 64 ∨ j.natAbs < 2 ^ 64 then some (.int (i * j)) else none
  | .fdv, .int i, .int j => if 0 < j ∧ j < 1073741824 then some (.int (i / j)) else none
  | .mod, .int i, .int j => if 0 < j then some (.int (i % j)) else none
  | .pow, .int i, .int j => if 0 ≤ j ∧ j ≤ 64 ∧ i.natAbs < 2 ^ 64 then some (.int (i ^ j.toNat)) else none
  | _, _, _ => none
def flatD : D → Bool
  | .none => true
  | .bool _ => true
  | .int _ => true
  | .str _ => true
  | _ => false
def memD (x : D) (ys : List D) : Bool := ys.any fun y => PyData.eqv y x
def inD (x : D) : D → Option Bool
  | .list ys => if flatD x = true ∧ ys.all flatD = true then some (memD x ys) else none
  | .tuple ys => if flatD x = true ∧ ys.all flatD = true then some (memD x ys) else none
  | .str t => match x with
    | .str s => if s.length = 1 then some (decide (s.cps.getD 0 0 ∈ t.cps.toList)) else none
    | _ => none
  | _ => none
def eqD : D → D → Option Bool
  | .str s, .str t => some (decide (s = t))
  | .int i, .int j => some (decide (i = j))
  | .bool a, .bool b => some (decide (a = b))
  | .int _, .str _ => some false
  | .str _, .int _ => some false
  | x, y => if SeqAt.shaped x = true ∧ SeqAt.shaped y = true then some (PyData.eqv x y) else none
def cmpD : Cop → D → D → Option Bool
  | .eq, x, y => eqD x y
  | .ne, x, y => (eqD x y).map (!·)
  | .lt, .int i, .int j => some (decide (i < j))
  | .le, .int i, .int j => some (decide (i ≤ j))
  | .gt, .int i, .int j => some (decide (j < i))
  | .ge, .int i, .int j => some (decide (j ≤ i))
  | .isin, x, y => inD x y
  | .notin, x, y => (inD x y).map (!·)
  | .isN, .none, .none => some true
  | .isN, _, .none => some false
  | .noN, .none, .none => some false
  | .noN, _, .none => some true
  | _, _, _ => none
def ixD : D → D → Option D
  | .list xs, .int i => atI xs i
  | .tuple xs, .int i => atI xs i
  | .str s, .int i => if s.length ≤ most then (atI s.cps.toList i).map fun c => .str ⟨#[c]⟩ else none
  | _, _ => none
def cutD (xs : List D) (lo hi : Option Int) : List D := (xs.drop (HT.sIx xs.length 0 lo)).take (HT.sIx xs.length xs.length hi - HT.sIx xs.length 0 lo)
def slD : D → Option Int → Option Int → Option D
  | .list xs, lo, hi => some (.list (cutD xs lo hi))
  | .tuple xs, lo, hi => some (.tuple (cutD xs lo hi))
  | .str s, lo, hi => if s.length ≤ most then some (.str (cutS s lo hi)) else none
  | _, _, _ => none
/-- truths alone -/
def boolsD : List D → Option (List Bool)
  | [] => some []
  | .bool b :: r => (boolsD r).map fun bs => b :: bs
  | _ => none
/-- what stands in an f-string -/
def partD : D → Option Str
  | .str s => if s.length ≤ most then some s else none
  | .int i => if i.natAbs.log2 < 1920 then some (Str.ofString (toString i)) else none
  | _ => none
def joinD : List D → Str → Option Str
  | [], acc => some acc
  | d :: r, acc => match partD d with
    | some s => if (acc ++ s).length ≤ most then joinD r (acc ++ s) else none
    | none => none
/-- the built-ins that are served -/
def biD : Bi → List D → Option D
  | .len, [.list xs] => some (.int xs.length)
  | .len, [.tuple xs] => some (.int xs.length)
  | .len, [.str s] => if s.length ≤ most then some (.int s.length) else none
  | .int, [.int i] => some (.int i)
  | .int, [.bool b] => some (.int (if b then 1 else 0))
  | .int, [.str s] => (match PySem.intText? s with
    | some n => if s.length ≤ 640 then some (.int n) else none
    | none => none)
  | .str, [.int i] => if i.natAbs.log2 < 1920 then some (.str (toString i)) else none
  | .tuple, [.list xs] => some (.tuple xs)
  | .tuple, [.tuple xs] => some (.tuple xs)
  | .list, [.list xs] => some (.list xs)
  | .list, [.tuple xs] => some (.list xs)
  | .all, [.list xs] => (boolsD xs).map fun bs => .bool (bs.all id)
  | .any, [.list xs] => (boolsD xs).map fun bs => .bool (bs.any id)
  | _, _ => none
def itD : D → Option (List D)
  | .list xs => some xs
  | .tuple xs => some xs
  | _ => none
/-- a text, sign by sign -/
def signsD (s : Str) : List D := s.cps.toList.map fun c => PyData.str ⟨#[c]⟩
def itS : D → Option (List D)
  | .list xs => some xs
  | .tuple xs => some xs
  | .str s => some (signsD s)
  | _ => none
def m0D : M0 → D → Option D
  | .lower, .str s => if s.length ≤ most then some (.str (Txt.lower s)) else none
  | .upper, .str s => if s.length ≤ most then some (.str (Txt.upper s)) else none
  | _, _ => none
def strsD : List D → Option (List Str)
  | [] => some []
  | .str s :: ds => (strsD ds).map fun ss => s :: ss
  | _ => none
/-- texts in their order -/
def srtS (ss : List Str) : List Str := ss.mergeSort fun a b => !PySem.Spec.ltCps b.cps.toList a.cps.toList
def srtD (ds : List D) : Option D := match strsD ds with
  | some ss => if ss.length < 64 then some (.tuple ((srtS ss).map PyData.str)) else none
  | none => none
def m1D : M1 → D → D → Option D
  | .removeprefix, .str s, .str t => if s.length ≤ most then some (.str (Txt.removeprefix s t)) else none
  | .join, .str s, .list ds => (match strsD ds with
    | some ys => if (ys.map (·.length)).sum + ys.length * s.length ≤ 16777216 then some (.str (Txt.join s ys)) else none
    | none => none)
  | _, _, _ => none
def rngD (lo hi : Int) : Option (List D) := if -(2 ^ 62) ≤ lo ∧ lo < 2 ^ 62 ∧ -(2 ^ 62) ≤ hi ∧ hi < 2 ^ 62 then some ((List.range (hi - lo).toNat).map fun (k : Nat) => PyData.int (lo + (k : Int))) else none
def lcG (f : D → Pl → Option (Option D × Pl)) : List D → Pl → Option (List D × Pl)
  | [], st => some ([], st)
  | d :: ds, st => match f d st with
    | some (none, st1) => lcG f ds st1
    | some (some e, st1) => (match lcG f ds st1 with
      | some (es, st2) => some (e :: es, st2)
      | none => none)
    | none => none
def Pl.at_ (s : Pl) : Nat → Option Int
  | 1 => some s.i
  | 2 => some s.r
  | 3 => some s.c
  | 4 => some s.l
  | _ => none
def Pl.put (s : Pl) (n : Int) : Nat → Option Pl
  | 1 => some { s with i := n }
  | 2 => some { s with r := n }
  | 3 => some { s with c := n }
  | 4 => some { s with l := n }
  | _ => none
def isiD : Ty → D → Bool
  | .int, .int _ => true
  | .int, .bool _ => true
  | .bool, .bool _ => true
  | .str, .str _ => true
  | .list, .list _ => true
  | .tuple, .tuple _ => true
  | _, _ => false
/-- the greatest of whole numbers -/
def intsD : List D → Option (List Int)
  | [] => some []
  | .int n :: r => (intsD r).map fun ns => n :: ns
  | _ => none
def maxI : List Int → Option Int → Option Int
  | [], d => d
  | n :: ns, _ => some (ns.foldl max n)
/-- what can be put in order -/
def tupD : D → Bool
  | .tuple (_ :: _) => true
  | _ => false
def plnD : D → Bool
  | .none => false
  | .tuple _ => false
  | _ => true
def sortOk (ds : List D) : Bool := (ds.all fun d => ds.all fun e => PySem.W.alike d e) && (ds.all tupD || ds.all plnD) && decide (ds.length ≤ most) && ds.all fun d => decide (d.depth ≤ 50)
def srtA (ds : List D) : List D := ds.mergeSort (PySem.W.dataLe false id)
def truD : D → Option Bool
  | .list xs => some !xs.isEmpty
  | .tuple xs => some !xs.isEmpty
  | .int n => some (n != 0)
  | _ => none
/-- downwards -/
def rngN (lo hi : Int) : Option (List D) := if -(2 ^ 62) ≤ lo ∧ lo < 2 ^ 62 ∧ -(2 ^ 62) ≤ hi ∧ hi < 2 ^ 62 then some ((List.range (lo - hi).toNat).map fun (i : Nat) => PyData.int (lo - (i : Int))) else none
def enD : Nat → List D → List D
  | _, [] => []
  | k, d :: ds => .tuple [.int k, d] :: enD (k + 1) ds
def zpD (xs ys : List D) : List D := List.zipWith (fun x y => .tuple [x, y]) xs ys
def setMany : List Nat → List D → List Sl → Option (List Sl)
  | [], [], env => some env
  | j :: js, d :: ds, env => setMany js ds (env.set j (.im d))
  | _, _, _ => none
def frzS : Sl → Sl
  | .ow ds => .im (.list ds)
  | s => s
def frzE (env : List Sl) : List Nat → List Sl
  | [] => env
  | i :: is => frzE (env.modify i frzS) is
/-- a def that changes the list it is handed last, by this name -/
def ioN (f : Str) : Str := ⟨f.cps.push 64⟩
mutual
def ev (cl : Cl) : IE → List Sl → Pl → Option (D × Pl)
  | .var i, env, st => (match env[i]? with
    | some (.im d) => some (d, st)
    | _ => none)
  | .cst c, _, st => some (c.d, st)
  | .call f as, env, st => (match ag cl as env st with
    | some (ds, st1) => cl f ds st1
    | none => none)
  | .bi f as, env, st => (match ea cl as env st with
    | some (ds, st1) => (biD f ds).map fun d => (d, st1)
    | none => none)
  | .bin o a b, env, st => (match ev cl a env st with
    | some (x, st1) => (match ev cl b env st1 with
      | some (y, st2) => (binD o x y).map fun d => (d, st2)
      | none => none)
    | none => none)
  | .cmp o a b, env, st => (match ev cl a env st with
    | some (x, st1) => (match ev cl b env st1 with
      | some (y, st2) => (cmpD o x y).map fun d => (.bool d, st2)
      | none => none)
    | none => none)
  | .and a b, env, st => (match ev cl a env st with
    | some (.bool true, st1) => ev cl b env st1
    | some (.bool false, st1) => some (.bool false, st1)
    | _ => none)
  | .or a b, env, st => (match ev cl a env st with
    | some (.bool true, st1) => some (.bool true, st1)
    | some (.bool false, st1) => ev cl b env st1
    | _ => none)
  | .not a, env, st => (match ev cl a env st with
    | some (.bool b, st1) => some (.bool (!b), st1)
    | _ => none)
  | .neg a, env, st => (match ev cl a env st with
    | some (.int i, st1) => some (.int (-i), st1)
    | _ => none)
  | .tup es, env, st => (match ea cl es env st with
    | some (ds, st1) => if ds.length ≤ most then some (.tuple ds, st1) else none
    | none => none)
  | .lst es, env, st => (match ea cl es env st with
    | some (ds, st1) => if ds.length ≤ most then some (.list ds, st1) else none
    | none => none)
  | .ix a b, env, st => (match ev cl a env st with
    | some (x, st1) => (match ev cl b env st1 with
      | some (y, st2) => (ixD x y).map fun d => (d, st2)
      | none => none)
    | none => none)
  | .sl a lo hi, env, st => (match ev cl a env st with
    | some (x, st1) => (match eo cl lo env st1 with
      | some (l, st2) => (match eo cl hi env st2 with
        | some (h, st3) => (slD x l h).map fun d => (d, st3)
        | none => none)
      | none => none)
    | none => none)
  | .ifx c a b, env, st => (match ev cl c env st with
    | some (.bool true, st1) => ev cl a env st1
    | some (.bool false, st1) => ev cl b env st1
    | _ => none)
  | .lc j it cs e, env, st => (match ei cl it env st with
    | some (ds, st1) => if ds.length ≤ most then (match lcG (fun d st => match et cl cs (env.set j (.im d)) st with
        | some (true, st2) => (match ev cl e (env.set j (.im d)) st2 with
          | some (y, st3) => some (some y, st3)
          | none => none)
        | some (false, st2) => some (none, st2)
        | none => none) ds st1 with
      | some (ys, st4) => some (.list ys, st4)
      | none => none) else none
    | none => none)
  | .olen i, env, st => (match env[i]? with
    | some (.ow ds) => some (.int ds.length, st)
    | some (.im d) => (biD .len [d]).map fun z => (z, st)
    | _ => none)
  | .pix i k, env, st => (match env[i]? with
    | some .pl => (st.at_ k).map fun n => (.int n, st)
    | _ => none)
  | .pcel i, env, st => (match env[i]? with
    | some .pl => (atI st.ns st.i).map fun n => (.int n, st)
    | _ => none)
  | .isi t e, env, st => (match ev cl e env st with
    | some (x, st1) => some (.bool (isiD t x), st1)
    | none => none)
  | .lent is e, env, st => (match ev cl e (frzE env is) st with
    | some (x, st1) => if flatD x = true then some (x, st1) else none
    | none => none)
  | .chn o1 o2 a b c, env, st => (match ev cl a env st with
    | some (x, st1) => (match ev cl b env st1 with
      | some (y, st2) => (match cmpD o1 x y with
        | some true => (match ev cl c env st2 with
          | some (z, st3) => (cmpD o2 y z).map fun d => (.bool d, st3)
          | none => none)
        | some false => some (.bool false, st2)
        | none => none)
      | none => none)
    | none => none)
  | .js es, env, st => (match ea cl es env st with
    | some (ds, st1) => (joinD ds Str.empty).map fun s => (.str s, st1)
    | none => none)
  | .rev e, env, st => (match ev cl e env st with
    | some (.list xs, st1) => some (.list xs.reverse, st1)
    | _ => none)
  | .con d, _, st => some (d, st)
  | .qt e, env, st => ev cl e env st
  | .calld f as cs, env, st => (match ag cl as env st with
    | some (ds, st1) => cl f (ds ++ cs.map fun c => some c.d) st1
    | none => none)
  | .me0 m e, env, st => (match ev cl e env st with
    | some (x, st1) => (m0D m x).map fun d => (d, st1)
    | none => none)
  | .me1 m a b, env, st => (match ev cl a env st with
    | some (x, st1) => (match ev cl b env st1 with
      | some (y, st2) => (m1D m x y).map fun d => (d, st2)
      | none => none)
    | none => none)
  | .exf j cs, env, st => (match env[j]? with
    | some (.er c v) => if c ∈ cs then some (v, st) else none
    | _ => none)
  | .exi j cs yes, env, st => (match env[j]? with
    | some (.er c _) => if c ∈ cs then some (.bool (decide (c ∈ yes)), st) else none
    | _ => none)
  | .tsr i, env, st => (match env[i]? with
    | some (.ow ds) => (srtD ds).map fun z => (z, st)
    | _ => none)
  | .stop, _, _ => none
  | .mx2 a b, env, st => (match ev cl a env st with
    | some (.int x, st1) => (match ev cl b env st1 with
      | some (.int y, st2) => some (.int (if y > x then y else x), st2)
      | _ => none)
    | _ => none)
  | .mn2 a b, env, st => (match ev cl a env st with
    | some (.int x, st1) => (match ev cl b env st1 with
      | some (.int y, st2) => some (.int (if y < x then y else x), st2)
      | _ => none)
    | _ => none)
  | .mxl e d, env, st => (match ev cl e env st with
    | some (.list xs, st1) => (match intsD xs with
      | some ns => (maxI ns d).map fun n => (.int n, st1)
      | none => none)
    | _ => none)
  | .srt e, env, st => (match ev cl e env st with
    | some (.list xs, st1) => if sortOk xs = true then some (.list (srtA xs), st1) else none
    | _ => none)
  | .tru e, env, st => (match ev cl e env st with
    | some (x, st1) => (truD x).map fun b => (.bool b, st1)
    | none => none)
  | .rep a b, env, st => (match ev cl a env st with
    | some (.list xs, st1) => (match ev cl b env st1 with
      | some (.int k, st2) => if -(2 ^ 62) ≤ k ∧ k < 2 ^ 62 ∧ xs.length * k.toNat ≤ most then some (.list (List.replicate k.toNat xs).flatten, st2) else none
      | _ => none)
    | _ => none)
  | .lcm js it cs e, env, st => (match ei cl it env st with
    | some (ds, st1) => if ds.length ≤ most then (match lcG (fun d st => match itD d with
        | some zs => (match setMany js zs env with
          | some env1 => (match et cl cs env1 st with
            | some (true, st2) => (match ev cl e env1 st2 with
              | some (y, st3) => some (some y, st3)
              | none => none)
            | some (false, st2) => some (none, st2)
            | none => none)
          | none => none)
        | none => none) ds st1 with
      | some (ys, st4) => some (.list ys, st4)
      | none => none) else none
    | none => none)
  | .plen i, env, st => (match env[i]? with
    | some .pl => some (.int st.ns.length, st)
    | _ => none)
def ea (cl : Cl) : IEs → List Sl → Pl → Option (List D × Pl)
  | .nil, _, st => some ([], st)
  | .cons e es, env, st => (match ev cl e env st with
    | some (x, st1) => (match ea cl es env st1 with
      | some (xs, st2) => some (x :: xs, st2)
      | none => none)
    | none => none)
  | .pool _ _, _, _ => none
def ag (cl : Cl) : IEs → List Sl → Pl → Option (List (Option D) × Pl)
  | .nil, _, st => some ([], st)
  | .cons e es, env, st => (match ev cl e env st with
    | some (x, st1) => (match ag cl es env st1 with
      | some (xs, st2) => some (some x :: xs, st2)
      | none => none)
    | none => none)
  | .pool i es, env, st => (match env[i]? with
    | some .pl => (match ag cl es env st with
      | some (xs, st2) => some (none :: xs, st2)
      | none => none)
    | _ => none)
/-- tests in a row, all to be True -/
def et (cl : Cl) : IEs → List Sl → Pl → Option (Bool × Pl)
  | .nil, _, st => some (true, st)
  | .cons e es, env, st => (match ev cl e env st with
    | some (.bool true, st1) => et cl es env st1
    | some (.bool false, st1) => some (false, st1)
    | _ => none)
  | .pool _ _, _, _ => none
def eo (cl : Cl) : IO → List Sl → Pl → Option (Option Int × Pl)
  | .non, _, st => some (none, st)
  | .some e, env, st => (match ev cl e env st with
    | some (.int i, st1) => some (some i, st1)
    | _ => none)
def ei (cl : Cl) : IT → List Sl → Pl → Option (List D × Pl)
  | .seq e, env, st => (match ev cl e env st with
    | some (x, st1) => (itS x).map fun xs => (xs, st1)
    | none => none)
  | .rng1 e, env, st => (match ev cl e env st with
    | some (.int n, st1) => (rngD 0 n).map fun xs => (xs, st1)
    | _ => none)
  | .rng2 a b, env, st => (match ev cl a env st with
    | some (.int lo, st1) => (match ev cl b env st1 with
      | some (.int hi, st2) => (rngD lo hi).map fun xs => (xs, st2)
      | _ => none)
    | _ => none)
  | .rng3 a b, env, st => (match ev cl a env st with
    | some (.int lo, st1) => (match ev cl b env st1 with
      | some (.int hi, st2) => (rngN lo hi).map fun xs => (xs, st2)
      | _ => none)
    | _ => none)
  | .enm e, env, st => (match ev cl e env st with
    | some (x, st1) => (itD x).map fun xs => (enD 0 xs, st1)
    | none => none)
  | .zp a b, env, st => (match ev cl a env st with
    | some (x, st1) => (match ev cl b env st1 with
      | some (y, st2) => (match itD x with
        | some xs => (itD y).map fun ys => (zpD xs ys, st2)
        | none => none)
      | none => none)
    | none => none)
end
/-- what a call raises stands beside what it returns, by this name; an error as data: its class, its field -/
def bang (f : Str) : Str := ⟨f.cps.push 33⟩
abbrev Er := Str × D
def erD : Er → D
  | (c, v) => .tuple [.str c, v]
def erOf : D → Option Er
  | .tuple [.str c, v] => some (c, v)
  | _ => none
/-- what an own error's field may be -/
def errOk : D → Bool
  | .str s => decide (s.length ≤ 1000)
  | .int i => decide (i.natAbs.log2 < 1920) && decide ((toString i : String).toList.length ≤ 1000)
  | _ => false
/-- what an expression raises -/
def xv (cl : Cl) : IE → List Sl → Pl → Option (Er × Pl)
  | .call f as, env, st => (match ag cl as env st with
    | some (ds, st1) => (match cl (bang f) ds st1 with
      | some (d, st2) => (erOf d).map fun er => (er, st2)
      | none => none)
    | none => none)
  | .calld f as cs, env, st => (match ag cl as env st with
    | some (ds, st1) => (match cl (bang f) (ds ++ cs.map fun c => some c.d) st1 with
      | some (d, st2) => (erOf d).map fun er => (er, st2)
      | none => none)
    | none => none)
  | .bin _ a b, env, st => (match xv cl a env st with
    | some r => some r
    | none => (match ev cl a env st with
      | some (_, st1) => xv cl b env st1
      | none => none))
  | .cmp _ a b, env, st => (match xv cl a env st with
    | some r => some r
    | none => (match ev cl a env st with
      | some (_, st1) => xv cl b env st1
      | none => none))
  | .not a, env, st => xv cl a env st
  | .lent is e, env, st => xv cl e (frzE env is) st
  | _, _, _ => none
inductive Out where
  | nx (env : List Sl) (st : Pl)
  | rt (d : D) (st : Pl)
  | bk (env : List Sl) (st : Pl)
  | ct (env : List Sl) (st : Pl)
def sgD (j : Sg) (d : D) (env : List Sl) : Option (List Sl) := match j with
  | .one j => some (env.set j (.im d))
  | .many js => (match itD d with
    | some ds => setMany js ds env
    | none => none)
def forG (f : D → List Sl → Pl → Option Out) : List D → List Sl → Pl → Option Out
  | [], env, st => some (.nx env st)
  | d :: ds, env, st => match f d env st with
    | some (.nx e s) => forG f ds e s
    | some (.ct e s) => forG f ds e s
    | some (.bk e s) => some (.nx e s)
    | some (.rt v s) => some (.rt v s)
    | none => none
/-- a name goes, and no caught error is spoken of -/
def cln : Sl → Sl
  | .er _ _ => .no
  | s => s
def clnE (j : Nat) (env : List Sl) : List Sl := (env.map cln).set j .no
def Out.un (j : Nat) : Out → Out
  | .nx env st => .nx (clnE j env) st
  | .rt d st => .rt d st
  | .bk env st => .bk (clnE j env) st
  | .ct env st => .ct (clnE j env) st
mutual
def evS (cl : Cl) : IS → List Sl → Pl → Option Out
  | .set i e, env, st => (match ev cl e env st with
    | some (x, st1) => some (.nx (env.set i (.im x)) st1)
    | none => none)
  | .own i e, env, st => (match ev cl e env st with
    | some (.list xs, st1) => some (.nx (env.set i (.ow xs)) st1)
    | _ => none)
  | .unp js e, env, st => (match ev cl e env st with
    | some (x, st1) => (sgD (.many js) x env).map fun env1 => .nx env1 st1
    | none => none)
  | .app i e, env, st => (match ev cl e env st with
    | some (x, st1) => (match env[i]? with
      | some (.ow ds) => if ds.length < most then some (.nx (env.set i (.ow (ds ++ [x]))) st1) else none
      | _ => none)
    | none => none)
  | .ext i e, env, st => (match ev cl e env st with
    | some (.list xs, st1) => (match env[i]? with
        | some (.ow ds) => if ds.length + xs.length ≤ most then some (.nx (env.set i (.ow (ds ++ xs))) st1) else none
        | _ => none)
    | _ => none)
  | .pput i k e, env, st => (match ev cl e env st with
    | some (.int n, st1) => (match env[i]? with
      | some .pl => (st1.put n k).map fun st2 => .nx env st2
      | _ => none)
    | _ => none)
  | .iff c a b, env, st => (match ev cl c env st with
    | some (.bool true, st1) => evSs cl a env st1
    | some (.bool false, st1) => evSs cl b env st1
    | _ => none)
  | .forr j it b, env, st => (match ei cl it env st with
    | some (ds, st1) => forG (fun d env st => match sgD j d env with
        | some env1 => evSs cl b env1 st
        | none => none) ds env st1
    | none => none)
  | .ret e, env, st => (match ev cl e env st with
    | some (x, st1) => some (.rt x st1)
    | none => none)
  | .retN, _, st => some (.rt .none st)
  | .retf e, env, st => (match ev cl e env st with
    | some (.list xs, st1) => some (.rt (.list xs) st1)
    | _ => none)
  | .dropc f as i, env, st => (match ag cl as env st with
    | some (ds, st1) => (match env[i]? with
      | some (.ow xs) => (match cl (ioN f) (ds ++ [some (.list xs)]) st1 with
        | some (.list out, st2) => some (.nx (env.set i (.ow out)) st2)
        | _ => none)
      | _ => none)
    | none => none)
  | .setf j f as, env, st => (match ag cl as env st with
    | some (ds, st1) => (match cl f ds st1 with
      | some (.none, st2) => some (.nx (env.set j (.im .none)) st2)
      | some (.list xs, st2) => some (.nx (env.set j (.ow xs)) st2)
      | _ => none)
    | none => none)
  | .oset i k e, env, st => (match ev cl e env st with
    | some (x, st1) => (match env[i]? with
      | some (.ow ds) => if k < ds.length then some (.nx (env.set i (.ow (ds.set k x))) st1) else none
      | _ => none)
    | none => none)
  | .drop e, env, st => (match ev cl e env st with
    | some (_, st1) => some (.nx env st1)
    | none => none)
  | .brk, env, st => some (.bk env st)
  | .cnt, env, st => some (.ct env st)
  | .frz is s, env, st => evS cl s (frzE env is) st
  | .aug i o e, env, st => (match env[i]? with
    | some (.im (.int m)) => (match ev cl e env st with
      | some (.int n, st1) => (match binD o (.int m) (.int n) with
        | some d => some (.nx (env.set i (.im d)) st1)
        | none => none)
      | _ => none)
    | _ => none)
  | .stop, _, _ => none
  | .rse _ _, _, _ => none
  | .calm s, env, st => evS cl s env st
  | .whl c, env, st => (match ev cl c env st with
    | some (.bool false, st1) => some (.nx env st1)
    | _ => none)
  | .ownl is j e, env, st => (match ev cl e (frzE env is) st with
    | some (.list xs, st1) => if xs.all flatD = true then some (.nx (env.set j (.ow xs)) st1) else none
    | _ => none)
  | .tri b cs j u, env, st => (match evSs cl b env st with
    | some o => some o
    | none => (match xvSs cl b env st with
      | some ((c, v), env1, st1) => if c ∈ cs then (match evSs cl u (env1.set j (.er c v)) st1 with
          | some o => some (o.un j)
          | none => none) else none
      | none => none))
def evSs (cl : Cl) : ISs → List Sl → Pl → Option Out
  | .nil, env, st => some (.nx env st)
  | .cons s r, env, st => (match evS cl s env st with
    | some (.nx env1 st1) => evSs cl r env1 st1
    | some o => some o
    | none => none)
/-- what a statement raises -/
def xvS (cl : Cl) : IS → List Sl → Pl → Option (Er × List Sl × Pl)
  | .set _ e, env, st => (xv cl e env st).map fun r => (r.1, env, r.2)
  | .ret e, env, st => (xv cl e env st).map fun r => (r.1, env, r.2)
  | .drop e, env, st => (xv cl e env st).map fun r => (r.1, env, r.2)
  | .app i e, env, st => (match env[i]? with
    | some (.ow _) => (xv cl e env st).map fun r => (r.1, env, r.2)
    | _ => none)
  | .rse c e, env, st => (match ev cl e env st with
    | some (v, st1) => if errOk v = true then some ((c, v), env, st1) else none
    | none => none)
  | .iff c a b, env, st => (match ev cl c env st with
    | some (.bool true, st1) => xvSs cl a env st1
    | some (.bool false, st1) => xvSs cl b env st1
    | _ => none)
  | .tri b cs _ _, env, st => (match xvSs cl b env st with
    | some r => if r.1.1 ∈ cs then none else some r
    | none => none)
  | _, _, _ => none
def xvSs (cl : Cl) : ISs → List Sl → Pl → Option (Er × List Sl × Pl)
  | .nil, _, _ => none
  | .cons s r, env, st => (match xvS cl s env st with
    | some x => some x
    | none => (match evS cl s env st with
      | some (.nx env1 st1) => xvSs cl r env1 st1
      | _ => none))
end
def slOf : Option D → Sl
  | some d => .im d
  | none => .pl
/-- a def: how many names, its body -/
structure IF where
  n : Nat
  body : ISs
def runF (cl : Cl) (f : IF) (as : List (Option D)) (st : Pl) : Option (D × Pl) :=
  match evSs cl f.body (as.map slOf ++ List.replicate (f.n - as.length) .no) st with
  | some (.rt d st1) => some (d, st1)
  | some (.nx _ st1) => some (.none, st1)
  | _ => none
/-- the same for a def that changes its last list -/
def runO (cl : Cl) (f : IF) (as : List (Option D)) (st : Pl) : Option (D × Pl) :=
  match as.getLast? with
  | some (some (.list ds)) => (match evSs cl f.body (as.dropLast.map slOf ++ .ow ds :: List.replicate (f.n - as.length) .no) st with
    | some (.nx env st1) => (match env[as.length - 1]? with
      | some (.ow out) => some (.list out, st1)
      | _ => none)
    | _ => none)
  | _ => none
end Ip

set_option Elab.async false
set_option linter.all false
set_option maxRecDepth 100000
set_option maxHeartbeats 4000000
namespace Ip
open PySem L2 PySem.W
/-! An own error's making: super().__init__(..) inside its __init__. -/
section
variable {X : Cx} {pins : List (Addr × Obj)} {σ : L2.St} {H : Hp} {s : Shared} {x : Str} {i : Nat} {v : V} {E : Value → Shared → Prop}
theorem lv {Q : Value → Shared → Prop} (I : Inv X pins σ H s) (hN : X.N[i]? = some x) (hv : Vis X.env.scope x) (hσ : σ[i]? = some (some v)) (hcd : (x == ("__classdict__" : Str)) = false) (h : ∀ u, RelV v u → Q u s) : wpAny (model X.prog X.w) X.A (loadName X.env x) Q E s := by
  obtain ⟨m, hn, hl⟩ := I.loc
  obtain ⟨u, r, l⟩ := hl i x v hN hσ hv
  have fin : Q u s := h u r
  rcases l with ⟨hk, hm⟩ | ⟨hk, c, hc, hcell⟩
  · exact wpAny_loadName_local I.ok.kind hk hn hm fin
  · rcases hk with hk | hk
    · exact wpAny_loadName_cell I.ok.kind hk hc hcell fin
    · exact wpAny_loadName_free I.ok.kind hk hc hcell fin hcd
/-- what is known of a def whose class cell is there, and of the file -/
structure SupF (X : Cx) (f C : Addr) (sn : Str) : Prop where
  func : X.env.func = some f
  ks : X.env.kindOf "super" = some .globalImplicit
  kc : X.env.kindOf "__class__" = some .free
  fn : ∃ of fd ar, X.K.lookup f = some of ∧ of.data = .func fd ∧ (fd.params.posonlyargs ++ fd.params.args).head? = some ar ∧ ar.arg = sn
  code : ∃ cda oc vs file tf, X.env.code = .ref cda ∧ X.K.lookup cda = some oc ∧ oc.data = .fields vs ∧ vs[2]? = some (.str file tf) ∧ ((X.prog.main.file : Str) == file) = true
  top : (X.prog.main.scope.names.lookup ("super" : Str)).isSome = false
  nos : X.mg "super" = none
  noo : nsIn X.K cStatics "thirdparty.any" = some none
  cls : (clsIn X.K C).isSome = true
  sub : mroIn X.K C (.ref C) = some true
theorem sup_at {body : List Stmt} {f C a : Addr} {self : Str} {i j : Nat} {p0 p1 : Pos} {whole : Sem Value} {Q : Value → Shared → Prop} {ox : Obj} {od : Option Obj} (F : SupF X f C self) (I : Inv X pins σ H s)
    (hN : X.N[i]? = some self) (hv : Vis X.env.scope self) (hσ : σ[i]? = some (some (.ref a))) (hcd : (self == ("__classdict__" : Str)) = false)
    (hN2 : X.N[j]? = some ("__class__" : Str)) (hσ2 : σ[j]? = some (some (.ref C))) (IA : InstAt s.heap a ox C od)
    (h : ∀ so s', Inv X pins σ H s' → s'.heap.get? so = some { cls := .type "super", dict := none, data := .fields #[.ref C, .ref a, .ref C], slots := #[] } → (∀ b o, s.heap.get? b = some o → s'.heap.get? b = some o) → Q (.ref so) s') :
    PySem.wpAt (model X.prog X.w) X.A (.func body X.env) (attributeBase (.Call (.Name "super" p0) [] [] p1) "__init__" X.env whole) Q E s := by
  obtain ⟨of, fd, ar, h1, h2, h3, rfl⟩ := F.fn
  obtain ⟨cda, oc, vs, file, tf, g1, g2, g3, g4, g5⟩ := F.code
  have KX := I.kIn
  obtain ⟨mb, b1, b2⟩ := I.mod.blt
  cases hc : clsIn X.K C with
  | none =>
    have := F.cls
    rw [hc] at this
    cases this
  | some cdD =>
    obtain ⟨oD, hD1, hD2⟩ : ∃ oD, s.heap.get? C = some oD ∧ oD.data = .cls cdD := by
      unfold clsIn at hc
      split at hc
      · rename_i c d cd' sl ho
        cases hc
        exact ⟨_, KX _ _ ho, rfl⟩
      · cases hc
    refine ks_wpAt_super_base (env := X.env) F.ks F.kc (by decide) F.func (KX _ _ h1) h2 h3 g1 (KX _ _ g2) g3 g4 g5 F.top ?_
    refine ks_loadName_global I.ok.kind F.ks (Calls.loadGlobal_builtin (by rw [I.ok.glob]; exact I.mod.glob.keeps I.bk) F.nos (by rw [I.ok.blt]; exact b1.keeps I.bk) ((b2 "super" (by decide)).trans (by decide +kernel)) ⟨rfl, ?_⟩)
    refine lv I hN2 (.inr (.inr F.kc)) hσ2 (by decide) fun u1 e1 => ?_
    obtain rfl : u1 = Value.ref C := e1
    refine lv I hN hv hσ hcd fun u2 e2 => ?_
    obtain rfl : u2 = Value.ref a := e2
    obtain ⟨hp, g, d, t, os⟩ := s
    refine ks_wpAny_isType_cls hD1 hD2 ⟨rfl, ?_⟩
    refine ks_wpAny_call_super hD1 hD2 IA.at_ IA.cls (fun c e => ?_) (looks_mroIn KX F.sub) (fun h' e k => ?_)
    · have := IA.no
      unfold notCls at this
      rw [e] at this
      exact Bool.noConfusion this
    · exact h _ _ (I.kept k) e k
/-- the base's __init__, bound to the error that is being made -/
theorem mw_call {us : List Value} {u a C : Addr} {Q : Value → Shared → Prop} (T : OexC X.K C) (I : Inv X pins σ H s) (hu : s.heap.get? u = some (kxs_mw "ValueError.__init__" a)) (e : H a = some (exo a C none)) (hl : us.length ≤ sizeLine)
    (h : ∀ s', Inv X pins σ H s' → Q .none s') : wpAny (model X.prog X.w) X.A (call (.ref u) us) Q E s := by
  obtain ⟨nm, q, N, bs, bm, sn, sub, ab, col, dd, k0, k1, k2, k3, k5, hC, hbm⟩ := T.cls
  obtain ⟨t1, ho⟩ := exo_at I.hok e
  obtain ⟨hp, g, d, t, os⟩ := s
  have KC := I.kIn _ _ hC
  have FB := F.excBase_ValueError
  have yes : (Value.type "method-wrapper" == Value.type "method" || Value.type "method-wrapper" == Value.type "builtin_function_or_method"
      || Value.type "method-wrapper" == Value.type "method-wrapper") = true := by decide
  apply wpAny_call
  apply codeAny_of_tree
  show wpAny _ X.A.in1 (callAny (.ref u) ⟨us, []⟩) _ _ _
  simp only [callAny]
  apply wpAny_bind
  apply wpAny_load hu
  simp only [kxs_mw, yes, if_true]
  apply KFB.if_so (by decide)
  apply wpAny_bind
  refine check_bound_init FB.toExcCallFacts KC ho rfl (wpAny_bind (wpAny_pure (wpAny_pure ⟨plainId_quiet FB.init.plain _, codeAny_builtin FB.initEntry ?_⟩)))
  refine exc_init_tree (t0 := t1) (dv := none) ho hl fun h' k hx ht => ?_
  have J := I.write (t' := t) (x := a) (e := a) (o := exo a C none) (by rw [e]; exact True.intro) (.inl rfl) k ⟨_, hx⟩ (exo_ok hx)
  have eu : upd H a (exo a C none) = H := funext fun b => by
    by_cases hb : b = a
    · subst hb
      rw [upd_same, e]
    · exact upd_ne hb
  rw [eu] at J
  exact h _ J
/-- a body that begins by super().__init__(e) -/
theorem sup_body {body rest : List Stmt} {e : Expr} {f C a : Addr} {sn : Str} {i j : Nat} {p0 p1 p2 pos pos' : Pos} {pl : Sem Bool} {ta : TA} {t : TS} {D : Ends} (F : SupF X f C sn) (T : OexC X.K C)
    (hsup : ks_superIn X.K C C "__init__" = some (some (.builtin "ValueError.__init__"))) (hVE : subIn X.K (.ref C) (.type "ValueError") = some true) (I : Inv X pins σ H s)
    (hN : X.N[i]? = some sn) (hv : Vis X.env.scope sn) (hσ : σ[i]? = some (some (.ref a))) (hcd : (sn == ("__classdict__" : Str)) = false)
    (hN2 : X.N[j]? = some ("__class__" : Str)) (hσ2 : σ[j]? = some (some (.ref C))) (ea : H a = some (exo a C none)) (ha : PA X [e] ta) (hr : PSs X rest t)
    (q : ta σ H fun vs H1 => vs.length ≤ 1000 ∧ H1 a = some (exo a C none) ∧ t D σ H1)
    (hc : eval (.Call (.Attribute (.Call (.Name "super" p0) [] [] p1) "__init__" p2) [e] [] pos) X.env = (do
      let ov ← attributeBase (.Call (.Name "super" p0) [] [] p1) "__init__" X.env (eval (.Call (.Name "super" p0) [] [] p1) X.env)
      standAt p2.atName
      let (f, first) ← holding [ov] (getMethod ov "__init__" pl)
      callWith pos f first (backTo pos (starEach [e] X.env)) (backToKw pos (keywordEach [] X.env))) := by rfl)
    (he : starEach [e] X.env = (false, eval e X.env) :: starEach [] X.env := by rfl) (hpl : (backTo pos (starEach [] X.env)).any (·.1) = false := by rfl)
    (hs : swapsWith (.Call (.Attribute (.Call (.Name "super" p0) [] [] p1) "__init__" p2) [e] [] pos) none pos'.line X.env = pure false := by rfl) :
    PySem.wpAt (model X.prog X.w) X.A (.func body X.env) (execs (.Expr (.Call (.Attribute (.Call (.Name "super" p0) [] [] p1) "__init__" p2) [e] [] pos) pos' :: rest) X.env) (SP X pins D) X.xe s := by
  obtain ⟨t1, ho⟩ := exo_at I.hok ea
  have IA : InstAt s.heap a _ C none := ⟨ho, rfl, rfl, trivial⟩
  rw [execs_cons]
  apply PySem.wpAt_bind
  rw [exec_Expr _ _ _ I.quiet hs]
  apply PySem.wpAt_bind
  refine PySem.wpAt_of_wpAny (wpAny_standAt ?_)
  apply PySem.wpAt_bind
  rw [hc]
  apply PySem.wpAt_bind
  refine sup_at F (I.tok _) hN hv hσ hcd hN2 hσ2 IA fun so s1 I1 hso kp => ?_
  refine PySem.wpAt_of_wpAny (wpAny_bind (wpAny_standAt (wpAny_bind (wpAny_holding ?_))))
  cases hcl : clsIn X.K C with
  | none =>
    have := F.cls
    rw [hcl] at this
    cases this
  | some cd =>
    have KX := I1.kIn
    have IA1 : InstAt s1.heap a _ C none := ⟨kp _ _ ho, rfl, rfl, trivial⟩
    unfold ks_superIn at hsup
    rw [hcl] at hsup
    obtain ⟨hp, g, d, tk, os⟩ := s1
    refine kxs_getMethod kxs_ValueError hso (looks_opaque KX F.noo) (l₀ := cd.mro) ?_ rfl KX hsup (IA1.type.andThen (looks_subIn KX hVE)) (ks_ne KX IA1 hcl) (by decide) ?_
    · exact fun A Q E s k q => wpAny_bind ((looks_clsIn KX hcl) A _ E s k (wpAny_pure q))
    have hu : (hp.push (kxs_mw "ValueError.__init__" a)).get? hp.objs.size = some (kxs_mw "ValueError.__init__" a) := Heap.get?_push_at rfl rfl
    have I2 : Inv X pins σ H ⟨hp.push (kxs_mw "ValueError.__init__" a), g, d, tk + 1, os⟩ := I1.kept (t' := tk + 1) fun b o e => Heap.get?_push_of_some _ e
    have fp := I1.fpOk (b := hp.objs.size) (H' := H) (Nat.le_refl _) (I1.hok.gone (by
      cases e : hp.get? hp.objs.size with
      | none => rfl
      | some o => exact absurd (Heap.lt_size e) (Nat.lt_irrefl _)))
    have I3 : Inv X ((hp.objs.size, kxs_mw "ValueError.__init__" a) :: pins) σ H ⟨hp.push (kxs_mw "ValueError.__init__" a), g, d, tk + 1, os⟩ := I2.pins_of fun p hp => by
      rcases List.mem_cons.mp hp with rfl | hp
      · exact ⟨hu, fp.1, fp.2.1, fp.2.2.1, fun v e => by cases e⟩
      · exact I2.pin p (List.mem_append_right _ hp)
    show wpAny _ _ (callWith pos (Value.ref hp.objs.size) [] (backTo pos (starEach [e] X.env)) []) _ _ _
    rw [he]
    refine kxs_callWith (i := "ValueError.__init__") (x := a) (by show (false || (backTo pos (starEach [] X.env)).any (·.1)) = false; rw [hpl]; rfl) (Calls.evalArgs_plain ?_)
    have hrun := ha.run pos _ _ σ H _ I3 q
    rw [he] at hrun
    refine thn hrun fun us s2 ⟨vs, H1, J, r1, q1, q2, q3⟩ => ?_
    have hu2 := (J.pin _ (List.mem_append_right _ (List.mem_cons_self ..))).1
    refine ⟨hu2, mw_call T J hu2 q2 (show us.length ≤ sizeLine from (Paired.length r1) ▸ Nat.le_trans q1 (by decide)) fun s3 J3 => ?_⟩
    rw [dropValue_plain (fun a z => by cases z)]
    refine PySem.wpAt_of_wpAny (wpAny_pure ?_)
    have J4 : Inv X pins σ H1 s3 := J3.pins_of fun p hp => J3.pin p (List.mem_append_right _ (List.mem_cons_of_mem _ hp))
    exact PySem.wpAt_of_wpAny (hr.run pins s3 σ H1 D J4 q3)
end
end Ip

set_option Elab.async false
set_option linter.all false
set_option maxRecDepth 100000
set_option maxHeartbeats 4000000
namespace Ip
open PySem L2 PySem.W NdefX
/-! A method whose class cell is there, by its body at its own code. -/
section
variable {CX : CXT} {P : Program} {w : World} {K : PySem.W.Frag} {mg : Str → Option Value} {base : Heap} {N ps : List Str} {F : NF} {f C cc : Addr} {k : Nat} {sp : Sp} {doc pm ct oc : Value} {od : Option Addr} {osl : Array (Option Value)}
theorem cellF_ok {cl cld : _} {csl : Array (Option Value)} (hF : F.cl = [(("__class__" : Str), cc)]) (lk : K.lookup f = some ⟨oc, od, .func (F.fd doc pm ct), osl⟩) (hcd : PySem.W.codeIn K (.ref F.c) F.qual = true) (S : NScope N ps [("__class__" : Str)] F.scope)
    (lc : K.lookup cc = some ⟨cl, cld, .cell (some (.ref C)), csl⟩) (len : ∀ vs H Q E, sp vs H Q E → vs.length = ps.length)
    (hbody : ∀ (A : Around) (outer : List Env) (s s1 : Shared) (H : Hp) (vs : List V) (Q : VK) (E : XK), Room k (A.deeper (envF F f s.heap.objs.size)) → sp vs H Q E →
      Inv (ncx CX P w K mg base N F f A outer s H E) [] (startF N vs [some (.ref C)]) H s1 →
      PySem.wpAt (model P w) (A.deeper (envF F f s.heap.objs.size)) (.func F.body (envF F f s.heap.objs.size)) (execs F.body (envF F f s.heap.objs.size))
        (SP (ncx CX P w K mg base N F f A outer s H E) [] { nx := fun _ H' => Q .non H', rt := Q }) (ncx CX P w K mg base N F f A outer s H E).xe s1) :
    FnOk P w K mg base CX (k + 1) f (F.fd doc pm ct) ps sp := by
  refine ⟨len, fun A outer s H args us vs Q E hr e0 hb r hsp => ?_⟩
  have hl := len _ _ _ _ hsp
  have bk : ∀ b o, base.get? b = some o → s.heap.get? b = some o := fun b o e => (e0.bs b o e).1
  have KX : K.In s.heap := e0.mod.kin.keeps bk
  have lim : s.heap.NoLimit := e0.mod.nolimit.keeps bk
  have hcc : s.heap.IsCell cc (some (.ref C)) := ⟨_, KX _ _ lc, rfl⟩
  have look : ∀ y c, F.cl.lookup y = some c → y = ("__class__" : Str) ∧ c = cc := fun y c e => by
    rw [hF] at e
    by_cases hy : y = ("__class__" : Str)
    · subst hy
      have e' : some cc = some c := e
      cases e'
      exact ⟨rfl, rfl⟩
    · have hb : (y == ("__class__" : Str)) = false := by simp [hy]
      simp [List.lookup, hb] at e
  have C0 : CellsAt F.cl [("__class__" : Str)] [some (.ref C)] s.heap H := {
    len := rfl
    all := fun y c e => by
      obtain ⟨rfl, rfl⟩ := look y c e
      exact ⟨(e0.bs _ _ (e0.mod.kin _ _ lc)).2, _, hcc⟩
    inj := fun x y c e1 e2 => by rw [(look x c e1).1, (look y c e2).1]
    has := fun i y e => by
      match i, e with
      | 0, e =>
        cases e
        refine ⟨cc, by rw [hF]; rfl, fun v hv => ?_⟩
        cases hv
        exact ⟨.ref C, rfl, hcc⟩ }
  refine codeAny_call_function hr.depth (KX _ _ lk) rfl S.co S.gen rfl (codeRec_of KX hcd) (hb _ _ _ _ ?_)
  refine wpAny_newFunctionEnv S.nocell (fun ⟨n, _⟩ hy => S.par n (List.of_mem_zip hy).1) (fun h₁ hns hsb => ⟨lim.fresh _ hsb, ?_⟩) S.kind
  have kp : ∀ b o, s.heap.get? b = some o → h₁.get? b = some o := fun b o e => hsb.extBut b o (Nat.ne_of_lt (Heap.lt_size e)) (Heap.get?_push_of_some _ e)
  have I : Inv (ncx CX P w K mg base N F f A outer s H E) [] (startF N vs [some (.ref C)]) H { s with heap := h₁, toks := s.toks + (ps.zip us).length } := inv_startN S hr.hd e0 hl r C0 hns kp
  refine ks_codeAny_funcAt ?_
  refine PySem.wpAt_mono (hbody A outer s _ H vs Q E (hr.deeper _) hsp I) (fun fl s' hs => ?_) fun e s' hs => hs
  have fin : ∀ {σ' : L2.St} {H' : Hp} {v : V} {u : Value}, Inv (ncx CX P w K mg base N F f A outer s H E) [] σ' H' s' → L2.RelV v u → Q v H' → CE outer P w H s Q u s' :=
    fun J rv q => ⟨_, _, J.os, J.bare, J.base, J.hok, rv, q⟩
  cases fl with
  | ret u =>
    obtain ⟨v, σ', H', J, rv, q⟩ := hs
    exact fin J rv q
  | next =>
    obtain ⟨σ', H', J, q⟩ := hs
    exact fin (v := V.non) (u := Value.none) J rfl q
  | brk =>
    obtain ⟨_, _, _, q⟩ := hs
    exact q.elim
  | cont =>
    obtain ⟨_, _, _, q⟩ := hs
    exact q.elim
end
end Ip

set_option Elab.async false
set_option linter.all false
set_option maxRecDepth 100000
set_option maxHeartbeats 4000000
namespace Ip
open PySem L2 PySem.W NdefX
/-! An own error of one field: __init__ says super().__init__(f"..{x}..") and keeps x. -/
/-- what may stand in the message -/
def ErrV (v : V) : Prop := (∃ y : Str, v = .str y ∧ y.length ≤ 1000) ∨ ∃ i : Int, v = .int i ∧ i.natAbs.log2 < 1920 ∧ (toString i : String).toList.length ≤ 1000
/-- the parts of the message -/
inductive Msg (x : Str) : List Expr → Nat → Prop
  | nil : Msg x [] 0
  | lit {s : Str} {j : Nat} {p : Pos} {r : List Expr} {n : Nat} (t : Msg x r n) : Msg x (.Constant (.str s) j p :: r) (s.length + n)
  | fmt {p p' : Pos} {r : List Expr} {n : Nat} (t : Msg x r n) : Msg x (.FormattedValue (.Name x p) (-1) none p' :: r) (1000 + n)
theorem str_of_len (i : Int) : (Str.ofString (toString i)).length = (toString i : String).toList.length := by
  rw [Str.ofString_eq_toList]
  show (List.map Char.toNat _).toArray.size = _
  simp
theorem str_app_len (a b : Str) : (a ++ b).length = a.length + b.length := by
  show (a.cps ++ b.cps).size = _
  rw [Array.size_append]
  rfl
theorem msg_pj {X : Cx} {x : Str} {i : Nat} {σ : L2.St} {H : Hp} {v : V} (hN : X.N[i]? = some x) (hv : Vis X.env.scope x) (hσ : σ[i]? = some (some v)) (hd : (x == ("__debug__" : Str)) = false) (hcd : (x == ("__classdict__" : Str)) = false) (ev : ErrV v) :
    ∀ {es : List Expr} {n : Nat}, Msg x es n → ∃ ts, PJ X es ts ∧ ∀ (acc : Str) (Q : Str → Hp → Prop), acc.length + n ≤ 100000 → (∀ y, Q y H) → tJs ts acc σ H Q
  | _, _, .nil => ⟨[], .nil, fun acc Q _ h => h acc⟩
  | _, _, .lit (s := s) (n := n) t => by
    obtain ⟨ts, h1, h2⟩ := msg_pj hN hv hσ hd hcd ev t
    refine ⟨_, .cons pe_str h1, fun acc Q hl h => ⟨s, rfl, ?_, h2 _ Q ?_ h⟩⟩
    · rw [str_app_len]
      exact Nat.le_trans (by omega : _ ≤ 100000) (by decide)
    · rw [str_app_len]
      omega
  | _, _, .fmt (n := n) t => by
    obtain ⟨ts, h1, h2⟩ := msg_pj hN hv hσ hd hcd ev t
    refine ⟨_, .cons (pe_fmt (pe_var (i := i) hN hv hd hcd)) h1, fun acc Q hl h => ⟨v, hσ, ?_⟩⟩
    rcases ev with ⟨y, rfl, hy⟩ | ⟨k, rfl, hk, hy⟩
    · refine .inl ⟨y, rfl, Nat.le_trans hy (by decide), y, rfl, ?_, h2 _ Q ?_ h⟩
      · rw [str_app_len]
        exact Nat.le_trans (by omega : _ ≤ 100000) (by decide)
      · rw [str_app_len]
        omega
    · rw [← str_of_len] at hy
      refine .inr ⟨k, rfl, hk, Str.ofString (toString k), rfl, ?_, h2 _ Q ?_ h⟩
      · rw [str_app_len]
        exact Nat.le_trans (by omega : _ ≤ 100000) (by decide)
      · rw [str_app_len]
        omega
/-- what such an __init__ promises -/
def spE1 (C : Addr) (fld : Str) : Sp := fun vs H Q _ => ∃ (a : Addr) (v : V), vs = [.ref a, v] ∧ ErrV v ∧ H a = some (exo a C none) ∧ ∀ dx, H dx = none → dx ≠ a → Q .non (upd (upd H dx (exd dx [(fld, v)])) a (exo a C (some dx)))
/-- the facts of the class, its def and its cell -/
structure ErrK (P : Program) (K : PySem.W.Frag) (mg : Str → Option Value) (F : NF) (f C cc : Addr) (sn fld : Str) : Prop where
  cl : F.cl = [(("__class__" : Str), cc)]
  lk : ∃ oc od doc pm ct osl, K.lookup f = some ⟨oc, od, .func (F.fd doc pm ct), osl⟩
  code : ∃ oc vs file tf, K.lookup F.c = some oc ∧ oc.data = .fields vs ∧ vs[2]? = some (.str file tf) ∧ ((P.main.file : Str) == file) = true
  cin : PySem.W.codeIn K (.ref F.c) F.qual = true
  cell : ∃ oc od osl, K.lookup cc = some ⟨oc, od, .cell (some (.ref C)), osl⟩
  top : (P.main.scope.names.lookup ("super" : Str)).isSome = false
  nos : mg "super" = none
  noo : nsIn K cStatics "thirdparty.any" = some none
  cls : (clsIn K C).isSome = true
  sub : mroIn K C (.ref C) = some true
  oex : OexC K C
  sup : ks_superIn K C C "__init__" = some (some (.builtin "ValueError.__init__"))
  ve : subIn K (.ref C) (.type "ValueError") = some true
  fld : findIn K (.ref C) fld = some none
theorem init1_ok {CX : CXT} {P : Program} {w : World} {K : PySem.W.Frag} {mg : Str → Option Value} {base : Heap} {F : NF} {f C cc : Addr} {k n : Nat} {sn x fld : Str} {p0 p1 p2 p3 p4 p5 p6 pm pos pos' : Pos} {m1 m2 : Expr} {ms : List Expr} {ar : Arg} {pl : Env → Sem Bool}
    (E0 : ErrK P K mg F f C cc sn fld) (S : NScope [sn, x, ("__class__" : Str)] [sn, x] [("__class__" : Str)] F.scope) (har : (F.params.posonlyargs ++ F.params.args).head? = some ar) (hsn : ar.arg = sn)
    (hks : F.scope.names.lookup ("super" : Str) = some .globalImplicit)
    (hb : F.body = [.Expr (.Call (.Attribute (.Call (.Name "super" p0) [] [] p1) "__init__" p2) [.JoinedStr (m1 :: m2 :: ms) pm] [] pos) pos', .Assign [.Attribute (.Name sn p3) fld p4] (.Name x p5) p6])
    (hm : Msg x (m1 :: m2 :: ms) n) (hn : n ≤ 90000) (d1 : (sn == ("__debug__" : Str)) = false) (d2 : (sn == ("__classdict__" : Str)) = false) (d3 : (x == ("__debug__" : Str)) = false) (d4 : (x == ("__classdict__" : Str)) = false)
    (hc : ∀ env, eval (.Call (.Attribute (.Call (.Name "super" p0) [] [] p1) "__init__" p2) [.JoinedStr (m1 :: m2 :: ms) pm] [] pos) env = (do
      let ov ← attributeBase (.Call (.Name "super" p0) [] [] p1) "__init__" env (eval (.Call (.Name "super" p0) [] [] p1) env)
      standAt p2.atName
      let (f, first) ← holding [ov] (getMethod ov "__init__" (pl env))
      callWith pos f first (backTo pos (starEach [.JoinedStr (m1 :: m2 :: ms) pm] env)) (backToKw pos (keywordEach [] env))) := by intro _; rfl)
    (hs1 : ∀ env, swapsWith (.Call (.Attribute (.Call (.Name "super" p0) [] [] p1) "__init__" p2) [.JoinedStr (m1 :: m2 :: ms) pm] [] pos) none pos'.line env = pure false := by intro _; rfl) (hs2 : ∀ env, swapsWith (.Name x p5) (some (.Attribute (.Name sn p3) fld p4)) p6.line env = pure false := by intro _; rfl) :
    ∃ fd, (∃ doc pm ct, fd = F.fd doc pm ct) ∧ FnOk P w K mg base CX (k + 1) f fd [sn, x] (spE1 C fld) := by
  obtain ⟨oc, od, doc, pmm, ct, osl, lk⟩ := E0.lk
  obtain ⟨oc2, od2, osl2, lc⟩ := E0.cell
  refine ⟨_, ⟨doc, pmm, ct, rfl⟩, cellF_ok E0.cl lk E0.cin S lc (fun vs H Q E h => ?_) fun A outer s s1 H vs Q E hr hsp I => ?_⟩
  · obtain ⟨a, v, rfl, _⟩ := h
    rfl
  · obtain ⟨a, v, rfl, hv, ha, hq⟩ := hsp
    have v0 : Vis F.scope sn := .inl (S.par sn (by simp))
    have v1 : Vis F.scope x := .inl (S.par x (by simp))
    have SF : SupF (ncx CX P w K mg base [sn, x, ("__class__" : Str)] F f A outer s H E) f C sn := {
      func := rfl
      ks := hks
      kc := S.frk _ (by simp)
      fn := ⟨_, _, ar, lk, rfl, har, hsn⟩
      code := by
        obtain ⟨o, vs, file, tf, h1, h2, h3, h4⟩ := E0.code
        exact ⟨_, o, vs, file, tf, rfl, h1, h2, h3, h4⟩
      top := E0.top
      nos := E0.nos
      noo := E0.noo
      cls := E0.cls
      sub := E0.sub }
    obtain ⟨ts, h1, h2⟩ := msg_pj (X := ncx CX P w K mg base [sn, x, ("__class__" : Str)] F f A outer s H E) (i := 1) (σ := startF [sn, x, ("__class__" : Str)] [.ref a, v] [some (.ref C)]) (H := H) rfl v1 rfl d3 d4 hv hm
    rw [hb]
    refine sup_body (X := ncx CX P w K mg base [sn, x, ("__class__" : Str)] F f A outer s H E) (i := 0) (j := 2) (a := a) SF E0.oex E0.sup E0.ve I rfl v0 rfl d2 rfl rfl ha (pa_cons (pe_joined h1) pa_nil) (pss_one (ps_ost (pe_var (i := 0) rfl v0 d1 d2) (pe_var (i := 1) rfl v1 d3 d4) (hs2 _))) ?_ (hc _) rfl rfl (hs1 _)
    refine h2 _ _ (by show 0 + n ≤ 100000; omega) fun y => ⟨Nat.le_trans (Nat.le_refl 1) (by decide : 1 ≤ 1000), ha, ?_⟩
    exact ⟨v, rfl, .ref a, rfl, a, C, rfl, E0.oex, E0.fld, .inl ⟨ha, fun dx n1 n2 => hq dx n1 n2⟩⟩
end Ip

set_option Elab.async false
set_option linter.all false
set_option maxRecDepth 100000
set_option maxHeartbeats 4000000
namespace Ip
open PySem L2 PySem.W NdefX
/-! raise E(e), E an own error of one field. -/
/-- what is known of the class where it is named -/
structure ErrAt (X : Cx) (x fld : Str) (C : Addr) : Prop where
  mg : X.mg x = some (.ref C)
  oex : OexC X.K C
  def_ : ∃ fI fd k ps, findIn X.K (.ref C) "__init__" = some (some (.ref fI)) ∧ typeIn X.K (.ref fI) = some (.type "function") ∧ FnOk X.prog X.w X.K X.mg X.base (L2N.CX X.prog X.w) k fI fd ps (spE1 C fld) ∧ Room (k + 1) X.A ∧ Binds X.K fd ps []
theorem passN {Y : Cx} : Passes (L2N.CX Y.prog Y.w) Y E0 := fun _ _ _ _ _ _ _ ⟨_, _, _, _, _, _, _, _, _, _, _, _, z⟩ => z.elim
/-- E(e, ..), its context None -/
theorem pmkN {Y : Cx} {CT : CXT} {nm : Str} {e0 : Expr} {er : List Expr} {ta0 : TA} {q0 q1 : Pos} {D fI : Addr} {lv : Nat} {fdI : FuncData} {pI : List Str} {spI : Sp} (T : OexC Y.K D) (iD : findIn Y.K (.ref D) "__init__" = some (some (.ref fI)))
    (tf : typeIn Y.K (.ref fI) = some (.type "function")) (FI : FnOk Y.prog Y.w Y.K Y.mg Y.base CT lv fI fdI pI spI) (rm : Room (lv + 1) Y.A) (bI : Binds Y.K fdI pI []) (px : Passes CT Y E0)
    (gl : Gl Y nm) (mD : Y.mg nm = some (.ref D)) (pa : PA Y (e0 :: er) ta0) (dbg : (nm == ("__debug__" : Str)) = false)
    (st1 : starEach (e0 :: er) Y.env = (false, eval e0 Y.env) :: starEach er Y.env) (st2 : (backTo q1 (starEach er Y.env)).any (·.1) = false) :
    L2N.PMk Y (.Call (.Name nm q0) (e0 :: er) [] q1) (tMkO D spI [] ta0) := by
  intro pins s0 σ0 H0 QQ J0 hh
  obtain ⟨b1, b2, b3, b4, b5, b6, b7, b8, b9, b10, c0, c1, c2, c3, c5, lkD, isVE⟩ := T.cls
  refine wpAny_Call_Name_kw (ld_glob J0 gl mD ?_ dbg)
  refine callWith_K (h₀ := Y.base) J0.ok.mod.kin T.kC (thn (pa.run q1 pins s0 σ0 H0 _ J0 hh) fun ws s3 ⟨xs, H3, J3, rr, few, nxt⟩ => ⟨J3.kIn, ?_⟩) st1 st2
  show wpAny _ _ (call (.ref D) ws) _ _ _
  obtain ⟨hh0, gn, dw, tn, osx⟩ := s3
  let ad := hh0.objs.size + 1
  have le1 : hh0.objs.size ≤ ad := Nat.le_succ _
  have fr : H3 ad = none := J3.hok.fresh le1
  have want := nxt ad fr
  let hh1 := (hh0.push (PySem.W.kdv_tup ws)).push (PySem.HandSPX.excO D hh0.objs.size)
  have keep1 : ∀ b o, hh0.get? b = some o → hh1.get? b = some o := fun b o e =>
    Heap.get?_push_of_some _ (Heap.get?_push_of_some _ e)
  have at1 : hh1.get? ad = some (PySem.HandSPX.excO D hh0.objs.size) := by
    show ((hh0.push (PySem.W.kdv_tup ws)).push (PySem.HandSPX.excO D hh0.objs.size)).get? (hh0.objs.size + 1) = _
    heap_get
  have J4 : Inv Y pins σ0 (upd H3 ad (exo ad D none)) ⟨hh1, gn, dw, tn, osx⟩ := J3.laid (t' := tn) (a := ad) (o := exo ad D none) (h' := hh1) keep1 le1 (exo_ok at1)
  have rr4 : Vals (V.ref ad :: (xs ++ [])) (Value.ref ad :: (ws ++ [])) := .cons rfl (rr.append .nil)
  have ln4 : (Value.ref ad :: ws ++ []).length = pI.length := by
    rw [← FI.len _ _ _ _ want]
    exact (Vals.length rr4).symm
  have few4 : ws.length ≤ sizeLine := by
    have e5 := Paired.length rr
    rw [sizeLine_eq]
    omega
  have b6 := bI ⟨hh1, gn, dw, tn, osx⟩ (Value.ref ad :: ws) J4.kIn ln4
  rw [List.cons_append] at b6
  have run4 := FI.run _ Y.stack _ _ ⟨Value.ref ad :: ws, []⟩ (Value.ref ad :: (ws ++ [])) _ _ (fun _ _ _ => False) (rm.make D ws []) (J4.env0.make D ws []) b6 rr4 want
  refine wpAny_call (PySem.HandSPX.call_own F.excBase_ValueError (fun Y2 => PySem.HandSPX.refsVE_contains Y2 b5 isVE) (J3.kIn _ _ lkD)
    (looks_findIn J3.kIn iD) (fun self => bind_fn J3.kIn self tf) few4 (codeAny_mono run4 fun rs s5 h5 => ?_))
  cases rs with
  | error ex =>
    exact px pins σ0 _ _ ex s5 J4 h5
  | ok fl =>
    cases fl with
    | ret u0 =>
      obtain ⟨v0, H5, oe5, ba5, un5, hk5, rv5, ev5, d5, fs5, ea5, ed5, hd5, q5⟩ := h5
      subst ev5
      obtain ⟨h6, g6, d6, t6, os6⟩ := s5
      obtain ⟨t0, G0, J6, kG, ge, ho6, na6⟩ := mk_end0 (d2 := d6) (t2 := t6) J3 le1 keep1 un5 hk5 oe5 ba5 ea5 ed5 hd5
      refine ⟨rv5, ad, _, _, ⟨G0, g6, d6, t6, os6⟩, _, .ref D, some d5, rfl, J6, kG, ge, ho6, ⟨rfl, rfl, fun vs hv => ?_⟩, rfl, rfl, na6, rfl, ba5, raises_own T.exC T.tyC, q5⟩
      cases hv
      rfl
    | _ => exact False.elim h5
theorem pmk_err1 {X : Cx} {x fld : Str} {C : Addr} {e : Expr} {ta : TA} {p pos : Pos} (K : ErrAt X x fld C) (hg : Gl X x) (ha : PA X [e] ta) (hdb : (x == ("__debug__" : Str)) = false)
    (he : starEach [e] X.env = (false, eval e X.env) :: starEach [] X.env := by rfl) (hpl : (backTo pos (starEach [] X.env)).any (·.1) = false := by rfl) :
    L2N.PMk X (.Call (.Name x p) [e] [] pos) (tMkO C (spE1 C fld) [] ta) := by
  obtain ⟨fI, fd, k, ps, h1, h2, h3, h4, h5⟩ := K.def_
  exact pmkN K.oex h1 h2 h3 h4 h5 passN hg K.mg ha hdb he hpl
/-- what stands behind the making: the error's dict, new -/
theorem mk_in {C : Addr} {fld : Str} {v : V} {H1 : Hp} {Q : XK} (hv : ErrV v) (h : ∀ d, H1 d = none → Q (.ref C) (some d) (upd H1 d (.xd [(fld, v)]))) :
    [v].length ≤ 1000 ∧ ∀ a, H1 a = none → spE1 C fld (.ref a :: ([v] ++ [])) (upd H1 a (exo a C none))
      (fun w H2 => w = .non ∧ ∃ (d : Addr) (fs : List (Str × V)), H2 a = some (exo a C (some d)) ∧ H2 d = some (exd d fs) ∧ H1 d = none ∧ Q (.ref C) (some d) (upd (del H2 a) d (.xd fs))) (fun _ _ _ => False) := by
  refine ⟨Nat.le_trans (Nat.le_refl 1) (by decide), fun a hn => ⟨a, v, rfl, hv, upd_same, fun dx n1 n2 => ⟨rfl, dx, [(fld, v)], upd_same, ?_, ?_, ?_⟩⟩⟩
  · rw [upd_ne n2, upd_same]
  · rw [upd_ne n2] at n1
    exact n1
  · have n3 : H1 dx = none := by
      rw [upd_ne n2] at n1
      exact n1
    have e : upd (del (upd (upd (upd H1 a (exo a C none)) dx (exd dx [(fld, v)])) a (exo a C (some dx))) a) dx (.xd [(fld, v)]) = upd H1 dx (.xd [(fld, v)]) := funext fun b => by
      by_cases hb : b = dx
      · subst hb
        rw [upd_same, upd_same]
      · rw [upd_ne hb, upd_ne hb]
        by_cases ha : b = a
        · subst ha
          rw [del_same, hn]
        · rw [del_ne ha, upd_ne ha, upd_ne hb, upd_ne ha]
    rw [e]
    exact h dx n3
end Ip

set_option Elab.async false
set_option linter.all false
set_option maxRecDepth 100000
set_option maxHeartbeats 4000000
namespace Ip
open PySem L2 PySem.W NdefX He
/-! The facts of an own error's class, decided from the written part. -/
abbrev nmI : Str := "__init__"
def errF (K : PySem.W.Frag) (x : Str) : Addr := ma K (ga K x) nmI
def errFd (K : PySem.W.Frag) (x : Str) : Option FuncData := match K.lookup (errF K x) with
  | some o => (match o.data with
    | .func fd => some fd
    | _ => none)
  | none => none
def errCl (K : PySem.W.Frag) (x : Str) : List (Str × Addr) := match errFd K x with
  | some fd => fd.closure
  | none => []
def errCd (K : PySem.W.Frag) (x : Str) : Addr := match errFd K x with
  | some fd => (match fd.code with
    | .ref c => c
    | _ => 0)
  | none => 0
def errCc (K : PySem.W.Frag) (x : Str) : Addr := match errCl K x with
  | [(_, c)] => c
  | _ => 0
abbrev ErrW : Type := Option (Str × Str × Arguments × FuncBody × Scope)
def errW (K : PySem.W.Frag) (x : Str) : ErrW := (errFd K x).map fun fd => (fd.name, fd.qualname, fd.params, fd.body, fd.scope)
def fileB (P : Program) (K : PySem.W.Frag) (c : Addr) : Bool := match K.lookup c with
  | some o => (match o.data with
    | .fields vs => (match (vs[2]? : Option Value) with
      | some (Value.str file _) => (P.main.file : Str) == file
      | _ => false)
    | _ => false)
  | none => false
def cellB (K : PySem.W.Frag) (c C : Addr) : Bool := match K.lookup c with
  | some o => (match o.data with
    | .cell (some (.ref D)) => D == C
    | _ => false)
  | none => false
def oexB (K : PySem.W.Frag) (C : Addr) : Bool := match K.lookup C with
  | some o => (match o.data with
    | .cls cd => decide (o.cls = .type "type") && (!cd.hasDel && (cd.hasDict && (match cd.mro with
      | .ref C2 :: bm => C2 == C && PySem.HandSPX.refsVE bm
      | _ => false) && (match o.slots.toList with
      | [_, _, _, _, some (.builtin n), _] => n == "ValueError.__new__"
      | _ => false)))
    | _ => false)
  | none => false
def errB (P : Program) (K : PySem.W.Frag) (x fld : Str) : Bool := (match errFd K x with
  | some fd => decide (fd.closure = [(("__class__" : Str), errCc K x)]) && (decide (fd.code = .ref (errCd K x)) && (decide (fd.defaults = .none) && (decide (fd.kwdefaults = .none) && (decide (fd.annotations = none)
    && (decide (fd.globals = mainGlobals) && (decide (fd.builtins = builtinsNs) && codeIn K (.ref (errCd K x)) fd.qualname))))))
  | none => false) && (fileB P K (errCd K x) && (cellB K (errCc K x) (ga K x) && (oexB K (ga K x) && (eqO (nsIn K cStatics "thirdparty.any") (some none) && ((clsIn K (ga K x)).isSome
    && (decide (mroIn K (ga K x) (.ref (ga K x)) = some true) && (eqO (findIn K (.ref (ga K x)) "__setattr__") (some (some (.builtin "object.__setattr__"))) && (decide (subIn K (.ref (ga K x)) (.type "BaseException") = some true)
    && (decide (typeIn K (.ref (ga K x)) = some (.type "type")) && (keepIn K (.ref (ga K x)) && (eqO (ks_superIn K (ga K x) (ga K x) nmI) (some (some (.builtin "ValueError.__init__")))
    && (decide (subIn K (.ref (ga K x)) (.type "ValueError") = some true) && (eqO (findIn K (.ref (ga K x)) fld) (some none) && (eqO (findIn K (.ref (ga K x)) nmI) (some (some (.ref (errF K x)))) && decide (typeIn K (.ref (errF K x)) = some (.type "function"))))))))))))))))
theorem oexB_ok {K : PySem.W.Frag} {C : Addr} (h : oexB K C = true) : ∃ nm q N bs bm sn sub ab col dd k0 k1 k2 k3 k5, K.lookup C = some (excClassObj nm q C N bs bm true sn sub ab col dd k0 k1 k2 k3 k5 "ValueError.__new__") ∧ PySem.HandSPX.refsVE bm = true := by
  unfold oexB at h
  cases q : K.lookup C with
  | none =>
    rw [q] at h
    cases h
  | some o =>
    rw [q] at h
    obtain ⟨oc, od, dt, osl⟩ := o
    cases dt with
    | cls cd =>
      obtain ⟨nm, bs, mro, ns, qn, hd, sn, sub, ab, col, del⟩ := cd
      simp only [Bool.and_eq_true, decide_eq_true_eq, Bool.not_eq_true'] at h
      obtain ⟨h1, h2, ⟨h3, h4⟩, h5⟩ := h
      subst h1 h2 h3
      split at h4
      · rename_i C2 bm
        simp only [Bool.and_eq_true, beq_iff_eq] at h4
        obtain ⟨rfl, h6⟩ := h4
        split at h5
        · rename_i k0 k1 k2 k3 n k5 e
          have hn : n = "ValueError.__new__" := beq_iff_eq.mp h5
          subst hn
          have es : osl = #[k0, k1, k2, k3, some (.builtin "ValueError.__new__"), k5] := by
            obtain ⟨l⟩ := osl
            exact congrArg Array.mk e
          subst es
          exact ⟨nm, qn, ns, bs, bm, sn, sub, ab, col, od, k0, k1, k2, k3, k5, rfl, h6⟩
        · cases h5
      · cases h4
    | _ => cases h
/-- an own error of one field: its name, its field, its __init__'s text -/
structure ErrD where
  x : Str
  fld : Str
  name : Str
  qual : Str
  params : Arguments
  body : List Stmt
  scope : Scope
def ErrD.F (d : ErrD) (K : PySem.W.Frag) : NF := ⟨d.name, d.qual, d.params, d.body, d.scope, errCl K d.x, errCd K d.x⟩
def ErrD.val (d : ErrD) : ErrW := some (d.name, d.qual, d.params, .stmts d.body, d.scope)
theorem fileB_ok {P : Program} {K : PySem.W.Frag} {c : Addr} (h : fileB P K c = true) : ∃ oc vs file tf, K.lookup c = some oc ∧ oc.data = .fields vs ∧ vs[2]? = some (.str file tf) ∧ ((P.main.file : Str) == file) = true := by
  unfold fileB at h
  split at h
  · rename_i o q
    split at h
    · rename_i vs e
      split at h
      · rename_i file tf e2
        exact ⟨o, vs, file, tf, q, e, e2, h⟩
      · cases h
    · cases h
  · cases h
theorem cellB_ok {K : PySem.W.Frag} {c C : Addr} (h : cellB K c C = true) : ∃ oc od osl, K.lookup c = some ⟨oc, od, .cell (some (.ref C)), osl⟩ := by
  unfold cellB at h
  split at h
  · rename_i o q
    obtain ⟨oc, od, dt, osl⟩ := o
    split at h
    · rename_i D e
      have e2 : D = C := beq_iff_eq.mp h
      have e : dt = _ := e
      subst e2 e
      exact ⟨oc, od, osl, q⟩
    · cases h
  · cases h
theorem err_ok {P : Program} {K : PySem.W.Frag} {mg : Str → Option Value} {d : ErrD} {sn : Str} (e : errW K d.x = d.val) (b : errB P K d.x d.fld = true) (hs : mg "super" = none) (ht : (P.main.scope.names.lookup ("super" : Str)).isSome = false) :
    ErrK P K mg (d.F K) (errF K d.x) (ga K d.x) (errCc K d.x) sn d.fld ∧ findIn K (.ref (ga K d.x)) nmI = some (some (.ref (errF K d.x))) ∧ typeIn K (.ref (errF K d.x)) = some (.type "function") := by
  unfold errB at b
  simp only [Bool.and_eq_true, decide_eq_true_eq] at b
  obtain ⟨b0, b1, b2, b3, b4, b5, b6, b7, b8, b9, b10, b11, b12, b13, b14, b15⟩ := b
  refine ⟨?_, eqO_ok b14, b15⟩
  cases q : errFd K d.x with
  | none =>
    rw [q] at b0
    cases b0
  | some fd =>
    rw [q] at b0
    have ecl : errCl K d.x = fd.closure := by
      unfold errCl
      rw [q]
    obtain ⟨n1, n2, n3, n4, n5, n6, n7, n8, n9, n10, n11, n12, n13, n14, n15⟩ := fd
    have b0' : (decide (n7 = [(("__class__" : Str), errCc K d.x)]) && (decide (n13 = .ref (errCd K d.x)) && (decide (n8 = .none) && (decide (n9 = .none) && (decide (n12 = none)
      && (decide (n6 = mainGlobals) && (decide (n15 = builtinsNs) && codeIn K (.ref (errCd K d.x)) n2))))))) = true := b0
    simp only [Bool.and_eq_true, decide_eq_true_eq] at b0'
    obtain ⟨c1, c2, c3, c4, c5, c6, c7, c8⟩ := b0'
    have e2 : (some (n1, n2, n3, n4, n5) : ErrW) = some (d.name, d.qual, d.params, .stmts d.body, d.scope) := by
      have e' : errW K d.x = d.val := e
      unfold errW at e'
      rw [q] at e'
      exact e'
    simp only [Option.some.injEq, Prod.mk.injEq] at e2
    obtain ⟨h1, h2, h3, h4, h5⟩ := e2
    have ecl2 : errCl K d.x = n7 := ecl
    subst h1 h2 h3 h4 h5 c2 c3 c4 c5 c6 c7
    have lk : ∃ oc od osl, K.lookup (errF K d.x) = some ⟨oc, od, .func ⟨d.name, d.qual, d.params, .stmts d.body, d.scope, mainGlobals, n7, .none, .none, n10, n11, none, .ref (errCd K d.x), n14, builtinsNs⟩, osl⟩ := by
      unfold errFd at q
      split at q
      · rename_i o q2
        obtain ⟨oc, od, dt, osl⟩ := o
        split at q
        · rename_i fd e3
          cases q
          have e3 : dt = _ := e3
          subst e3
          exact ⟨oc, od, osl, q2⟩
        · cases q
      · cases q
    obtain ⟨oc, od, osl, lk⟩ := lk
    exact {
      cl := ecl2.trans c1
      lk := ⟨oc, od, n10, n11, n14, osl, by rw [lk]; show _ = some (Obj.mk oc od (.func ((d.F K).fd n10 n11 n14)) osl); unfold ErrD.F; rw [ecl2]⟩
      code := fileB_ok b1
      cin := c8
      cell := cellB_ok b2
      top := ht
      nos := hs
      noo := eqO_ok b4
      cls := b5
      sub := b6
      oex := ⟨oexB_ok b3, eqO_ok b7, b8, b9, b10⟩
      sup := eqO_ok b11
      ve := b12
      fld := eqO_ok b13 }
end Ip

set_option Elab.async false
set_option linter.all false
set_option maxRecDepth 100000
set_option maxHeartbeats 4000000
namespace Ip
open PySem L2 PySem.W He
/-! What is asked of the module's top: defs, names, own errors. -/
def asE (g : Addr → Option Obj) : Nat → List Addr
  | 0 => [mainGlobals, cStatics]
  | n + 1 => growD g (asE g n)
abbrev AlE : Type := AlD × (Bool × List ErrW)
def obsE (P : Program) (fa : List Fa) (fn : List DefD) (er : List ErrD) (K : PySem.W.Frag) : AlE := (obsD fa fn K, er.all (fun d => errB P K d.x d.fld), er.map fun d => errW K d.x)
def valE (fn : List DefD) (er : List ErrD) : AlE := (valD fn, true, er.map ErrD.val)
def SaysE (P : Program) (fa : List Fa) (fn : List DefD) (er : List ErrD) (K : PySem.W.Frag) : Prop := obsE P fa fn er K = valE fn er
def obsEG (n : Nat) (P : Program) (fa : List Fa) (fn : List DefD) (er : List ErrD) (g : Addr → Option Obj) : AlE := obsE P fa fn er (frG g (asE g n))
def hookE (n : Nat) (P : Program) (fa : List Fa) (fn : List DefD) (er : List ErrD) : PySem.W.Hook where
  α := AlE
  obs := fun s => obsEG n P fa fn er s.heap.get?
  val := fun _ => valE fn er
  says := fun _ h => ∃ K : PySem.W.Frag, K.In h ∧ SaysE P fa fn er K
  of := fun _ _ e => ⟨_, frG_in, e⟩
  keeps := fun _ _ _ q k => q.elim fun K q => ⟨K, PySem.W.Frag.In.keeps q.1 k, q.2⟩
theorem obsEG_eq {n : Nat} {P : Program} {fa : List Fa} {fn : List DefD} {er : List ErrD} {g : Addr → Option Obj} {s : Shared} (h : ∀ a, g a = s.heap.get? a) : obsEG n P fa fn er g = (hookE n P fa fn er).obs s := by
  obtain rfl : g = s.heap.get? := funext h
  rfl
theorem SaysE.old {P : Program} {fa : List Fa} {fn : List DefD} {er : List ErrD} {K : PySem.W.Frag} (c : SaysE P fa fn er K) : SaysD fa fn K := congrArg (fun z : AlE => z.1) c
theorem SaysE.err {P : Program} {fa : List Fa} {fn : List DefD} {er : List ErrD} {K : PySem.W.Frag} (c : SaysE P fa fn er K) (i : Nat) {d : ErrD} (h : er[i]? = some d := by rfl) : errW K d.x = d.val ∧ errB P K d.x d.fld = true := by
  have c1 : (er.all fun d => errB P K d.x d.fld) = true := congrArg (fun z : AlE => z.2.1) c
  have c2 : er.map (fun d => errW K d.x) = er.map ErrD.val := congrArg (fun z : AlE => z.2.2) c
  refine ⟨?_, List.all_eq_true.mp c1 d (List.mem_of_getElem? h)⟩
  have e : (er.map fun d => errW K d.x)[i]? = (er.map ErrD.val)[i]? := by rw [c2]
  rw [List.getElem?_map, List.getElem?_map, h] at e
  exact Option.some.inj e
end Ip

set_option Elab.async false
set_option linter.all false
set_option maxRecDepth 100000
set_option maxHeartbeats 4000000
/-! isinstance of a caught error that has fields. -/
namespace Ip
open PySem L2 PySem.W PySem.Calls PySem.Spec PyProof.Rows
section
variable {P : Program} {w : World} {A : Around} {E : Value → Shared → Prop} {s : Shared} {K : Frag} {x D : Addr} {ox : Obj} {od : Option Obj}
theorem obj_dat {C : Addr} {nm : Str} {v g : Value} (c1 : (clsIn K C).isSome = true) (c2 : findIn K (.ref C) nm = some (some v)) (c3 : specialIn K v "__get__" = some (some g)) (c4 : takesIn K v = some true) :
    findObj K C od nm = some (.bind g v) := by
  unfold findObj
  obtain ⟨cd, c1⟩ := Option.isSome_iff_exists.mp c1
  rw [c1, Option.bind_some, c2]
  rw [Option.bind_some]
  simp [c3, c4]
theorem cls_attr {Q : Option Value → Shared → Prop} (T : ExcC K D) (X : K.In s.heap) (I : InstAt s.heap x ox D od) (q : Q (some (.ref D)) { s with toks := s.toks + 1 }) :
    wpAny (model P w) A (getAttr? (.ref x) "__class__") Q E s := by
  obtain ⟨cd, cdh, _⟩ := any_some T.hd
  have fo : findObj K D od "__class__" = some (.bind (.builtin "getset_descriptor.__get__") (.builtin "object.__class__")) := obj_dat (by rw [cdh]; rfl) T.ha T.hn T.ht
  obtain ⟨hp, gs, dw, tk, os⟩ := s
  have ty := I.type (M := model P w)
  have ga := looks_findIn (M := model P w) X T.hg
  have gt := looks_findIn (M := model P w) X T.hk
  have fi := looks_find (M := model P w) X I fo
  have isb : Looks (model P w) hp (isInstance (.ref x) (.type "BaseException")) true := ty.andThen (looks_subIn X T.hs)
  have z2 : (Value.builtin "BaseException.__getattribute__" == Value.builtin "object.__getattribute__") = false := by
    decide +kernel
  have z0 : (false && onTheHeap (Value.builtin "BaseException.__getattribute__")) = false := by
    rfl
  have z1 : (onTheHeap (Value.ref D) && Value.builtin "BaseException.__getattribute__" == Value.builtin "object.__getattribute__") = false := by
    rw [z2]
    rfl
  unfold getAttr? getAttrBy?
  unfold getAttrBy
  refine wpAny_bind (wpAny_mkText (wpAny_bind (wpAny_attempt (wpAny_holding (wpAny_bind (ty.at (wpAny_bind (ga.at ?_))))))))
  show wpAny _ _ (if (onTheHeap (Value.ref D) && Value.builtin "BaseException.__getattribute__" == Value.builtin "object.__getattribute__") = true
    then _ else _) _ _ _
  rw [z1]
  rw [if_neg Bool.false_ne_true]
  unfold getAttrByItsOwn
  unfold hookBefore
  refine wpAny_bind ?_
  rw [if_pos (by rfl : onTheHeap (Value.ref D) = true)]
  refine gt.at (wpAny_bind (wpAny_attempt (wpAny_holding ?_)))
  unfold callGetattribute
  rw [z0]
  rw [if_neg Bool.false_ne_true]
  unfold boundAndCalled
  rw [PySem.F.excAttr_ValueError.ga.bind (.ref x)]
  refine wpAny_bind (wpAny_pure ?_)
  show wpAny _ _ (call (.builtin "BaseException.__getattribute__") [.ref x, .str "__class__" tk]) _ _ _
  refine wpAny_call (codeAny_call_builtin PySem.F.excAttr_ValueError.ga.plain PySem.F.entry_bexc_ga ?_)
  refine @check_slot (model P w) _ _ ⟨hp, gs, dw, tk + 1, os⟩ "BaseException.__getattribute__" "BaseException" "__getattribute__" (.ref x) [.str "__class__" tk] [] _
    (by decide +kernel) (by decide +kernel) isb (PySem.F.args_bexc_ga (.ref x) (.str "__class__" tk)) ?_
  unfold Builtin.«object.__getattribute__»
  refine wpAny_bind (wpAny_of_eq (a := ((Value.ref x : Value), [Value.str "__class__" tk])) (by first | rfl | (simp only [slotArgs]; rfl)) (wpAny_bind (wpAny_pure (wpAny_bind (ty.at (wpAny_bind (fi.at ?_)))))))
  show wpAny _ _ (holding [Value.builtin "object.__class__"] (call (.builtin "getset_descriptor.__get__") [.builtin "object.__class__", .ref x, .ref D])
    >>= ret) _ _ _
  refine wpAny_bind (wpAny_holding (wpAny_call (class_get (s := ⟨hp, gs, dw, tk + 1, os⟩) (ox := ox) (od := od) X I T.hm ?_)))
  first
    | exact wpAny_pure (wpAny_pure q)
    | exact wpAny_pure q
    | (refine wpAny_pure ?_
       show wpAny _ _ (handedOut (.ref D)) _ _ _
       rw [handedOut_of (v := .ref D) rfl]
       first
         | exact wpAny_pure (wpAny_pure q)
         | exact wpAny_pure q
         | exact wpAny_pure (wpAny_bind (wpAny_pure (wpAny_pure q))))
theorem kit_exc (T : ExcC K D) : KitX K (.ref x) (.ref D) (fun h => InstAt h x ox D od) where
  ca := fun X I q => cls_attr T X I q
  ty := fun _ _ _ I => I.type
  it := fun _ _ X _ => by
    obtain ⟨cd, hc, _⟩ := any_some T.hd
    unfold clsIn at hc
    split at hc
    · rename_i e1 e2 e3 e4 ho
      intro A' Q' E' s' kk q
      unfold isType
      unfold loadHead
      exact wpAny_bind (wpAny_loadPart (kk _ _ (X _ _ ho)) (wpAny_pure q))
    · cases hc
  ne := fun h tp dd its n sl X htp => by
    obtain ⟨cd, hc, _⟩ := any_some T.hd
    rw [Bool.eq_false_iff]
    intro q
    have e := Value.ref.inj (beq_iff_eq.mp q)
    subst e
    unfold clsIn at hc
    split at hc
    · rename_i e1 e2 e3 e4 ho
      have z := (X _ _ ho).symm
      rw [htp] at z
      cases z
    · cases hc
end
/-- isinstance(e, c), e the exception that the suite holds, dd its dict -/
def rIsX (K : PySem.W.Frag) (D a dd : Addr) : List V → Hp → VK → Prop := fun xs H Q => ∃ (c : V) (cv : Value) (b : Bool) (fs : List (Str × V)),
  xs = [.ref a, c] ∧ (∀ u, RelV c u → u = cv) ∧ kitOne K (.ref D) cv = some b ∧ H dd = some (.xd fs) ∧ Q (.bl b) H
theorem call_isX {X : Cx} {a D dd : Addr} {oe : Obj} {pn : List (Addr × Obj)} (C : ExcC X.K D) (hz : Zc (.ref D) (some dd) oe) (hf : ∃ vs, oe.data = .fields vs) :
    CallR (X.suite a ((a, oe) :: pn)) (.builtin "isinstance") (rIsX X.K D a dd) := by
  intro pins s σ H xs us Q I r h
  obtain ⟨c, cv, b, fs, rfl, ec, ek, ed, q⟩ := h
  cases r with
  | cons r1 r2 =>
    cases r2 with
    | cons r3 r4 =>
      cases r4
      cases r1
      obtain rfl := ec _ r3
      obtain ⟨mA, hns, hr⟩ := show ObjOk _ _ H s.heap dd (.xd fs) from I.hok dd _ ed
      obtain ⟨od, ho, _⟩ := lookIn_ns hns
      have J : InstAt s.heap a oe D (some od) := by
        have hg := (I.pin (a, oe) (List.mem_append.mpr (.inl List.mem_cons_self))).1
        obtain ⟨vs, hv⟩ := hf
        obtain ⟨k1, k2, k3, k4⟩ := oe
        obtain ⟨z1, z2⟩ := hz
        dsimp only at z1 z2 hv
        subst z1 z2 hv
        exact ⟨hg, rfl, rfl, ho⟩
      exact kia_one (kit_exc C) I.kIn J ek (fun z => nomatch z) fun tk => ⟨.bl b, H, I.kept (t' := tk) fun _ _ z => z, rfl, q⟩
end Ip

set_option Elab.async false
set_option linter.all false
set_option maxRecDepth 100000
set_option maxHeartbeats 4000000
/-! Readings over data, expression by expression. -/
namespace Ip
open PySem L2
/-! ### what is known where an expression stands -/
structure Gam where
  N : List Str
  sc : Scope
  K : PySem.W.Frag
  cl : Cl
  /-- the own defs that may be called here; the built-ins that nothing covers -/
  fs : List Str
  bs : List Str
  /-- the own defs that may raise; the own errors, each with its field -/
  xs : List Str
  es : List (Str × Str)
  /-- the own defs that may be called within an except suite -/
  hs : List Str := []
  /-- isinstance of a caught error: its class, the class asked for, the answer; the same of except clauses -/
  ks : List (Str × Str × Bool) := []
  ts : List (Str × Str × Bool) := []
  /-- the module's constants; own defs with what fills up their last parameters -/
  gs : List (Str × D) := []
  df : List (Str × List Cst) := []
  /-- own generator defs, spoken of by what list(..) of a call comes to -/
  gn : List Str := []
  /-- within an except suite -/
  hot : Bool := false
  /-- the slot of the list that goes back changed; a new list is returned; own defs that change their last list; own defs that return a new list or None -/
  io : Option Nat := none
  fr : Bool := false
  fi : List Str := []
  ff : List Str := []
/-- no error is caught here -/
abbrev noLk : Addr → Addr → Str → Str → Prop := fun _ _ _ _ => False
/-- the pool alone -/
def Pa.o (p : Pa) : Pa := ⟨p.a, p.q, noLk, none, false⟩
/-- nothing but the pool -/
structure Std (p : Pa) : Prop where
  lk : p.lk = noLk
  io : p.io = none
  fr : p.fr = false
/-- a def's name, as it is called within an except suite -/
def hotN (f : Str) : Str := ⟨f.cps.push 126⟩
inductive ArA (K : PySem.W.Frag) (p : Pa) (B : Hp) : List V → List (Option D) → Prop
  | nil : ArA K p B [] []
  | cons {v : V} {vs : List V} {d : D} {ds : List (Option D)} : Rp K B v d → ArA K p B vs ds → ArA K p B (v :: vs) (some d :: ds)
  | pool {vs : List V} {ds : List (Option D)} : ArA K p B vs ds → ArA K p B (.ref p :: vs) (none :: ds)
theorem Bs.o {p : Pa} {st : Pl} {B F H : Hp} (w : Bs p st B F H) : Bs p.o st B F H := ⟨w.b, w.f, w.d, w.pf, w.pb, w.pl⟩
theorem Bs.u {p : Pa} {st : Pl} {B F H : Hp} (w : Bs p.o st B F H) : Bs p st B F H := ⟨w.b, w.f, w.d, w.pf, w.pb, w.pl⟩
theorem ArA.o {K : PySem.W.Frag} {p : Pa} {B : Hp} : ∀ {vs : List V} {as : List (Option D)}, ArA K p B vs as → ArA K p.o B vs as
  | _, _, .nil => .nil
  | _, _, .cons h r => .cons h (ArA.o r)
  | _, _, .pool r => .pool (ArA.o r)
/-- a def over data -/
def spF (K : PySem.W.Frag) (cl : Cl) (f : Str) : Sp := fun vs H Q _ => ∃ (p : Pa) (st : Pl) (B F : Hp) (as : List (Option D)) (d : D) (st' : Pl), Std p ∧ Bs p st B F H ∧ ArA K p B vs as ∧ cl f as st = some (d, st') ∧
  ∀ v B' H', Ex B B' → Bs p st' B' F H' → Rp K B' v d → Q v H'
/-- a generator def over data: all that it hands out -/
def spL (K : PySem.W.Frag) (cl : Cl) (f : Str) : SpG := fun vs H cont _ => ∃ (p : Pa) (st : Pl) (B F : Hp) (as : List (Option D)) (out : List D) (st' : Pl), Std p ∧ Bs p st B F H ∧ ArA K p B vs as ∧ cl f as st = some (.list out, st') ∧
  ∀ xs B' H', Ex B B' → Bs p st' B' F H' → RpA K B' xs out → cont xs H'
/-- a def that changes the list it is handed last, over data -/
def spI (K : PySem.W.Frag) (cl : Cl) (f : Str) : Sp := fun vs H Q _ => ∃ (p : Pa) (st : Pl) (B F : Hp) (as : List (Option D)) (us : List V) (a : Addr) (xs : List V) (ds out : List D) (st' : Pl), Std p ∧ Bs p st B F H ∧ vs = us ++ [.ref a] ∧ ArA K p B us as ∧
  H a = some (.lst xs) ∧ B a = none ∧ F a = none ∧ a ≠ p.a ∧ RpA K B xs ds ∧ cl (ioN f) (as ++ [some (.list ds)]) st = some (.list out, st') ∧
  ∀ B' H' ys, Ex B B' → Bs p st' B' F H' → B' a = none → H' a = some (.lst ys) → RpA K B' ys out → Q .non H'
/-- None, or a new list -/
def RtF (K : PySem.W.Frag) (p : Pa) (B F H : Hp) (v : V) (d : D) : Prop := (d = .none ∧ v = .non) ∨ ∃ (a : Addr) (xs : List V) (ds : List D), d = .list ds ∧ v = .ref a ∧ H a = some (.lst xs) ∧ RpA K B xs ds ∧ B a = none ∧ F a = none ∧ a ≠ p.a
def RtV (K : PySem.W.Frag) (p : Pa) (B F H : Hp) (v : V) (d : D) : Prop := if p.fr = true then RtF K p B F H v d else Rp K B v d
theorem RtV.f {K : PySem.W.Frag} {p : Pa} {B F H : Hp} {v : V} {d : D} (h : p.fr = false) : RtV K p B F H v d = Rp K B v d := by
  unfold RtV
  rw [h]
  rfl
theorem RtV.t {K : PySem.W.Frag} {p : Pa} {B F H : Hp} {v : V} {d : D} (h : p.fr = true) : RtV K p B F H v d = RtF K p B F H v d := by
  unfold RtV
  rw [h]
  rfl
/-- a def that returns a new list or None, over data -/
def spR (K : PySem.W.Frag) (cl : Cl) (f : Str) : Sp := fun vs H Q _ => ∃ (p : Pa) (st : Pl) (B F : Hp) (as : List (Option D)) (d : D) (st' : Pl), Std p ∧ Bs p st B F H ∧ ArA K p B vs as ∧ cl f as st = some (d, st') ∧
  ∀ v B' H', Ex B B' → Bs p st' B' F H' → RtF K p B' F H' v d → Q v H'
/-- an own error that is on its way -/
def Raised (mg : Str → Option Value) (es : List (Str × Str)) (K : PySem.W.Frag) (p : Pa) (B F : Hp) (er : Er) (cls : Value) (d : Addr) (H : Hp) : Prop := ∃ (C : Addr) (fld : Str) (u : V),
  (er.1, fld) ∈ es ∧ mg er.1 = some (.ref C) ∧ cls = .ref C ∧ H d = some (.xd [(fld, u)]) ∧ Rp K B u er.2 ∧ B d = none ∧ F d = none ∧ d ≠ p
/-- a def over data that may raise -/
def spG (mg : Str → Option Value) (es : List (Str × Str)) (K : PySem.W.Frag) (cl : Cl) (f : Str) : Sp := fun vs H Q E => ∃ (p : Pa) (st : Pl) (B F : Hp) (as : List (Option D)), Std p ∧ Bs p st B F H ∧ ArA K p B vs as ∧
  ((∃ d st', cl f as st = some (d, st') ∧ ∀ v B' H', Ex B B' → Bs p st' B' F H' → Rp K B' v d → Q v H') ∨
   (∃ dd er st', cl (bang f) as st = some (dd, st') ∧ erOf dd = some er ∧ ∀ cls d B' H', Ex B B' → Bs p st' B' F H' → Raised mg es K p B' F er cls d H' → E cls (some d) H'))
/-- a caught error, where its suite stands -/
structure CaughtAt (X : Cx) (a dd : Addr) (c fld : Str) : Prop where
  ex : ∃ (X0 : Cx) (oe : Obj) (pn : List (Addr × Obj)) (C : Addr), X = X0.suite a ((a, oe) :: pn) ∧ Zc (.ref C) (some dd) oe ∧ (∃ vs, oe.data = .fields vs) ∧ X.mg c = some (.ref C)
/-- what the errors' classes say -/
structure ErrFacts (Γ : Gam) (K : PySem.W.Frag) (mg : Str → Option Value) : Prop where
  cl : ∀ q ∈ Γ.es, ∀ C, mg q.1 = some (.ref C) → XfC K C ∧ ExcC K C ∧ PySem.W.findIn K (.ref C) q.2 = some none
  ki : ∀ q ∈ Γ.ks, ∀ C, mg q.1 = some (.ref C) → (∃ D, mg q.2.1 = some (.ref D) ∧ PySem.W.kitOne K (.ref C) (.ref D) = some q.2.2) ∨
    (∃ n : String, mg q.2.1 = none ∧ bootBuiltins q.2.1 = some (.type n) ∧ q.2.1 ≠ "__name__" ∧ PySem.W.kitOne K (.ref C) (.type n) = some q.2.2)
  tr : ∀ q ∈ Γ.ts, ∀ C, mg q.1 = some (.ref C) → ∃ D, mg q.2.1 = some (.ref D) ∧ PySem.W.exmOne K (.ref C) (.ref D) = some q.2.2
  gc : ∀ q ∈ Γ.gs, ∃ u v, mg q.1 = some u ∧ RelV v u ∧ ∀ B, Rp K B v q.2
def Cst.v : Cst → V
  | .non => .non
  | .bl b => .bl b
  | .int i => .int i
  | .str s => .str s
structure Okx (Γ : Gam) (X : Cx) (p : Pa) : Prop where
  K : X.K = Γ.K
  N : X.N = Γ.N
  nd : Γ.N.Nodup
  sc : X.env.scope = Γ.sc
  calm : Γ.hot = false → X.calm = true
  hotc : Γ.hot = true → L2H.HotC X
  units : X.A.units + 100 < cLine
  fn : Γ.hot = false → ∀ f ∈ Γ.fs, ∃ fa fd ps k, FnOk X.prog X.w X.K X.mg X.base (L2N.CX X.prog X.w) k fa fd ps (spF Γ.K Γ.cl f) ∧ X.mg f = some (.ref fa) ∧ PySem.W.keepIn X.K (.ref fa) = true ∧ Binds X.K fd ps [] ∧ Room k X.A
  fnh : ∀ f ∈ Γ.hs, ∃ fa fd ps k, L2H.FnH X.prog X.w X.K X.mg X.base (L2N.CX X.prog X.w) k fa fd ps (spF Γ.K Γ.cl (hotN f)) ∧ X.mg f = some (.ref fa) ∧ PySem.W.keepIn X.K (.ref fa) = true ∧ Binds X.K fd ps [] ∧ L2H.RoomH k X.A
  bl : ∀ f ∈ Γ.bs, X.mg f = none
  xn : Γ.hot = false → ∀ f ∈ Γ.xs, ∃ fa fd ps k, FnOk X.prog X.w X.K X.mg X.base (L2N.CX X.prog X.w) k fa fd ps (spG X.mg Γ.es Γ.K Γ.cl f) ∧ X.mg f = some (.ref fa) ∧ PySem.W.keepIn X.K (.ref fa) = true ∧ Binds X.K fd ps [] ∧ Room k X.A
  er : Γ.hot = false → ∀ q ∈ Γ.es, ∃ C, ErrAt X q.1 q.2 C
  df : Γ.hot = false → ∀ q ∈ Γ.df, ∃ fa fd ps k us, FnOk X.prog X.w X.K X.mg X.base (L2N.CX X.prog X.w) k fa fd ps (spG X.mg Γ.es Γ.K Γ.cl q.1) ∧ X.mg q.1 = some (.ref fa) ∧ PySem.W.keepIn X.K (.ref fa) = true ∧ Binds X.K fd ps us ∧ Vals (q.2.map Cst.v) us ∧ Room k X.A
  gn : Γ.hot = false → ∀ f ∈ Γ.gn, ∃ fa fd ps k, GFn X.prog X.w X.K X.mg X.base k fa fd ps (spL Γ.K Γ.cl f) ∧ X.mg f = some (.ref fa) ∧ PySem.W.keepIn X.K (.ref fa) = true ∧ Binds X.K fd ps [] ∧ Room (k + 3) X.A ∧ ∀ as st d st', Γ.cl f as st = some (d, st') → ∃ ys, d = PyData.list ys
  lk : Γ.hot = false → p.lk = noLk
  lkh : ∀ a dd c f, p.lk a dd c f → (c, f) ∈ Γ.es ∧ CaughtAt X a dd c f
  ef : ErrFacts Γ X.K X.mg
def GlS (sc : Scope) (x : Str) : Prop := sc.names.lookup x = some .globalImplicit
theorem Okx.gl {Γ : Gam} {X : Cx} {p : Pa} (o : Okx Γ X p) {x : Str} (h : GlS Γ.sc x) : Gl X x := by
  show X.env.scope.names.lookup x = _
  rw [o.sc]
  exact h
def Gam.blk (Γ : Gam) (scope : Scope) : Gam := { Γ with sc := relS scope Γ.sc }
theorem Okx.blk {Γ : Gam} {X : Cx} {p : Pa} (o : Okx Γ X p) (hh : Γ.hot = false) (scope : Scope) (s : Shared) (H : Hp) (C : Addr) (cl : List (Str × Addr)) (fp : List Addr) : Okx (Γ.blk scope) (X.blk s H scope (compEnvC scope cl C X.env) fp) p where
  K := o.K
  N := o.N
  nd := o.nd
  sc := by
    show relabel scope X.env = relS scope Γ.sc
    unfold relabel relS
    rw [← o.sc]
    rfl
  calm := o.calm
  hotc := fun z => by
    rw [show (Γ.blk scope).hot = Γ.hot from rfl, hh] at z
    cases z
  units := o.units
  fn := o.fn
  fnh := o.fnh
  bl := o.bl
  xn := o.xn
  er := fun z q hq => by
    obtain ⟨C, h⟩ := o.er z q hq
    exact ⟨C, h.mg, h.oex, h.def_⟩
  df := o.df
  gn := o.gn
  lk := o.lk
  lkh := fun a dd c f h => by
    rw [o.lk hh] at h
    exact h.elim
  ef := ⟨o.ef.cl, o.ef.ki, o.ef.tr, o.ef.gc⟩
/-! ### readings -/
def Tx (K : PySem.W.Frag) (cl : Cl) (p : Pa) (e : IE) : TE := fun σ H Q => ∃ st B M F env d st', Rel K p st B M F env σ H ∧ ev cl e env st = some (d, st') ∧
  ∀ v B' H', Ex B B' → Rel K p st' B' M F env σ H' → Rp K B' v d → Q v H'
def Tt (K : PySem.W.Frag) (cl : Cl) (p : Pa) (e : IE) : TT := fun σ H Q => ∃ st B M F env b st', Rel K p st B M F env σ H ∧ ev cl e env st = some (.bool b, st') ∧
  ∀ B' H', Ex B B' → Rel K p st' B' M F env σ H' → Q b H'
def Ts (K : PySem.W.Frag) (cl : Cl) (p : Pa) (es : IEs) : TT := fun σ H Q => ∃ st B M F env b st', Rel K p st B M F env σ H ∧ et cl es env st = some (b, st') ∧
  ∀ B' H', Ex B B' → Rel K p st' B' M F env σ H' → Q b H'
def Ta (K : PySem.W.Frag) (cl : Cl) (p : Pa) (es : IEs) : TA := fun σ H Q => ∃ st B M F env ds st', Rel K p st B M F env σ H ∧ ea cl es env st = some (ds, st') ∧
  ∀ vs B' H', Ex B B' → Rel K p st' B' M F env σ H' → RpA K B' vs ds → Q vs H'
def Tg (K : PySem.W.Frag) (cl : Cl) (p : Pa) (es : IEs) : TA := fun σ H Q => ∃ st B M F env ds st', Rel K p st B M F env σ H ∧ ag cl es env st = some (ds, st') ∧
  ∀ vs B' H', Ex B B' → Rel K p st' B' M F env σ H' → ArA K p B' vs ds → Q vs H'
/-- a new list -/
def Tf (K : PySem.W.Frag) (cl : Cl) (p : Pa) (e : IE) : TE := fun σ H Q => ∃ st B M F env ds st', Rel K p st B M F env σ H ∧ ev cl e env st = some (.list ds, st') ∧
  ∀ a xs B' H', Ex B B' → B' a = none → M a = none → F a = none → a ≠ p → H' a = some (.lst xs) → RpA K B' xs ds → Rel K p st' B' M F env σ H' → Q (.ref a) H'
def To (K : PySem.W.Frag) (cl : Cl) (p : Pa) (o : IO) : TO := fun σ H Q => ∃ st B M F env l st', Rel K p st B M F env σ H ∧ eo cl o env st = some (l, st') ∧
  ∀ B' H', Ex B B' → Rel K p st' B' M F env σ H' → Q l H'
section
variable {X : Cx} {e : Expr} {te te' : TE} {tt tt' : TT}
theorem PE_weak (h : PE X e te) (w : ∀ σ H Q, te' σ H Q → te σ H Q) : PE X e te' := ⟨fun pins s σ H Q I q => h.run pins s σ H Q I (w σ H Q q)⟩
theorem PT_weak (h : PT X e tt) (w : ∀ σ H Q, tt' σ H Q → tt σ H Q) : PT X e tt' := ⟨fun pins s σ H Q I q => h.run pins s σ H Q I (w σ H Q q)⟩
theorem PW_weak (h : PW X e tt) (w : ∀ σ H Q, tt' σ H Q → tt σ H Q) : PW X e tt' := ⟨fun wh pins s σ H Q I q => h.run wh pins s σ H Q I (w σ H Q q)⟩
theorem PA_weak {es : List Expr} {ta ta' : TA} (h : PA X es ta) (w : ∀ σ H Q, ta' σ H Q → ta σ H Q) : PA X es ta' := ⟨fun pos pins s σ H Q I q => h.run pos pins s σ H Q I (w σ H Q q)⟩
theorem PO_weak {o : Option Expr} {to to' : TO} (h : PO X o to) (w : ∀ σ H Q, to' σ H Q → to σ H Q) : PO X o to' := ⟨fun pins s σ H Q I q => h.run pins s σ H Q I (w σ H Q q)⟩
theorem PS_weak {st : Stmt} {t t' : TS} (h : PS X st t) (w : ∀ D σ H, t' D σ H → t D σ H) : PS X st t' := ⟨fun pins s σ H D I q => h.run pins s σ H D I (w D σ H q)⟩
theorem PSs_weak {st : List Stmt} {t t' : TS} (h : PSs X st t) (w : ∀ D σ H, t' D σ H → t D σ H) : PSs X st t' := ⟨fun pins s σ H D I q => h.run pins s σ H D I (w D σ H q)⟩
theorem PTs_weak {es : List Expr} (h : PTs X es tt) (w : ∀ σ H Q, tt' σ H Q → tt σ H Q) : PTs X es tt' := ⟨fun pins s σ H Q I q => h.run pins s σ H Q I (w σ H Q q)⟩
end
/-! ### an expression, a test, arguments: what is shown of each -/
def SE (Γ : Gam) (e : Expr) (i : IE) : Prop := ∀ X p, Okx Γ X p → PE X e (Tx Γ.K Γ.cl p i)
def SF (Γ : Gam) (e : Expr) (i : IE) : Prop := ∀ X p, Okx Γ X p → PE X e (Tf Γ.K Γ.cl p i)
def ST (Γ : Gam) (e : Expr) (i : IE) : Prop := ∀ X p, Okx Γ X p → PT X e (Tt Γ.K Γ.cl p i)
def SW (Γ : Gam) (e : Expr) (i : IE) : Prop := ∀ X p, Okx Γ X p → PW X e (Tt Γ.K Γ.cl p i)
def SA (Γ : Gam) (es : List Expr) (i : IEs) : Prop := ∀ X p, Okx Γ X p → PA X es (Ta Γ.K Γ.cl p i)
def SG (Γ : Gam) (es : List Expr) (i : IEs) : Prop := ∀ X p, Okx Γ X p → PA X es (Tg Γ.K Γ.cl p i)
def SO (Γ : Gam) (o : Option Expr) (i : IO) : Prop := ∀ X p, Okx Γ X p → PO X o (To Γ.K Γ.cl p i)
def STs (Γ : Gam) (es : List Expr) (i : IEs) : Prop := ∀ X p, Okx Γ X p → PTs X es (Ts Γ.K Γ.cl p i)
section
variable {K : PySem.W.Frag} {p : Pa} {st : Pl} {B M F : Hp} {env : List Sl} {σ : L2.St} {H : Hp}
/-- an own, new object becomes known -/
theorem Rel.know (r : Rel K p st B M F env σ H) {a : Addr} {o : HO} (h : H a = some o) (hb : B a = none) (hm : M a = none) (hf : F a = none) (hp : a ≠ p) : Rel K p st (upd B a o) M F env σ H where
  bs := {
    b := fun c u e => by
      by_cases hc : c = a
      · subst hc
        rw [upd_same] at e
        rw [← e]
        exact h
      · rw [upd_ne hc] at e
        exact r.bs.b c u e
    f := r.bs.f
    d := fun c u e => by
      rw [upd_ne (ne_of_none e hf)]
      exact r.bs.d c u e
    pf := r.bs.pf
    pb := by
      rw [upd_ne (fun e => hp e.symm)]
      exact r.bs.pb
    pl := by
      obtain ⟨h1, h2⟩ := r.bs.pl
      exact ⟨h1, Ex.new hb _ _ h2⟩ }
  m := r.m
  md := fun c u e => by
    obtain ⟨h1, h2, h3⟩ := r.md c u e
    refine ⟨?_, h2, h3⟩
    rw [upd_ne (ne_of_none e hm)]
    exact h1
  en := r.en.mono (Ex.new hb)
end
section
variable {Γ : Gam} {e a b c : Expr} {ia ib ic i : IE} {pos : Pos}
/-- a new list, as a value -/
theorem SF.se (h : SF Γ e i) (hl : ∀ cl env st d st', ev cl i env st = some (d, st') → ∃ ds, d = .list ds) : SE Γ e i := fun X p o => PE_weak (h X p o) fun σ H Q q => by
  obtain ⟨st, B, M, F, env, d, st', r, he, k⟩ := q
  obtain ⟨ds, rfl⟩ := hl _ _ _ _ _ he
  refine ⟨st, B, M, F, env, ds, st', r, he, fun a xs B' H' e1 hb hm hf hp ha hr r' => ?_⟩
  exact k (.ref a) _ H' (e1.trans (Ex.new hb)) (r'.know ha hb hm hf hp) (.lst upd_same (hr.mono (Ex.new hb)))
theorem se_var (n : Nat) {x : Str} (hN : Γ.N[n]? = some x := by rfl) (hv : Vis Γ.sc x := by first | exact Or.inl rfl | exact Or.inr (Or.inl rfl) | exact Or.inr (Or.inr rfl)) (hd : (x == ("__debug__" : Str)) = false := by decide) (hcd : (x == ("__classdict__" : Str)) = false := by decide) :
    SE Γ (.Name x pos) (.var n) := fun X p o => PE_weak (pe_var (i := n) (by rw [o.N]; exact hN) (by rw [o.sc]; exact hv) hd hcd) fun σ H Q q => by
  obtain ⟨st, B, M, F, env, d, st', r, he, k⟩ := q
  unfold ev at he
  split at he
  · rename_i d' e1
    cases he
    obtain ⟨ov, h1, h2⟩ := r.en.at_ n _ e1
    cases ov with
    | none => exact h2.elim
    | some v => exact ⟨v, h1, k v B H (Ex.refl B) r h2⟩
  · cases he
theorem se_cst {K : PySem.W.Frag} (c : Cst) {v : V} (h : ∀ X : Cx, PE X e (tC v)) (hv : ∀ K B, Rp K B v c.d) : SE Γ e (.cst c) := fun X p o => PE_weak (h X) fun σ H Q q => by
  obtain ⟨st, B, M, F, env, d, st', r, he, k⟩ := q
  unfold ev at he
  cases he
  exact k v B H (Ex.refl B) r (hv _ B)
theorem se_int {n : Int} {j} : SE Γ (.Constant (.int n) j pos) (.cst (.int n)) := se_cst (K := Γ.K) (.int n) (fun _ => pe_int) fun _ _ => .int n
theorem se_str {x : Str} {j} : SE Γ (.Constant (.str x) j pos) (.cst (.str x)) := se_cst (K := Γ.K) (.str x) (fun _ => pe_str) fun _ _ => .str x
theorem se_bl {x : Bool} {j} : SE Γ (.Constant (.bool x) j pos) (.cst (.bl x)) := se_cst (K := Γ.K) (.bl x) (fun _ => pe_bl) fun _ _ => .bl x
theorem se_non {j} : SE Γ (.Constant .none j pos) (.cst .non) := se_cst (K := Γ.K) .non (fun _ => pe_non) fun _ _ => .non
/-- two operands -/
theorem tx_bin {K : PySem.W.Frag} {cl : Cl} {i : IE} {r : R2} {σ : L2.St} {H : Hp} {Q : VK} {f : D → D → Option D} (hi : ∀ env st, ev cl i env st = (match ev cl ia env st with
    | some (x, st1) => (match ev cl ib env st1 with
      | some (y, st2) => (f x y).map fun d => (d, st2)
      | none => none)
    | none => none))
    (hr : ∀ {st B M F env x y z v u H}, Rel K p st B M F env σ H → Rp K B v x → Rp K B u y → f x y = some z → ∀ Q : VK, (∀ w B' H', Ex B B' → Rel K p st B' M F env σ H' → Rp K B' w z → Q w H') → r v u H Q)
    (q : Tx K cl p i σ H Q) : tOp r (Tx K cl p ia) (Tx K cl p ib) σ H Q := by
  obtain ⟨st, B, M, F, env, d, st', rl, he, k⟩ := q
  rw [hi] at he
  cases e1 : ev cl ia env st with
  | none =>
    rw [e1] at he
    cases he
  | some xs =>
    obtain ⟨x, st1⟩ := xs
    rw [e1] at he
    cases e2 : ev cl ib env st1 with
    | none =>
      simp only [e2] at he
      cases he
    | some ys =>
      obtain ⟨y, st2⟩ := ys
      simp only [e2] at he
      cases e3 : f x y with
      | none =>
        rw [e3] at he
        cases he
      | some z =>
        rw [e3] at he
        cases he
        exact ⟨st, B, M, F, env, x, st1, rl, e1, fun v B1 H1 x1 r1 p1 => ⟨st1, B1, M, F, env, y, _, r1, e2, fun u B2 H2 x2 r2 p2 =>
          hr r2 (p1.mono x2) p2 e3 Q fun w B' H' x3 r3 p3 => k w B' H' ((x1.trans x2).trans x3) r3 p3⟩⟩
end
end Ip

set_option Elab.async false
set_option linter.all false
set_option maxRecDepth 100000
set_option maxHeartbeats 4000000
namespace Ip
open PySem L2
theorem most_line {n : Nat} (h : n ≤ most) : n ≤ sizeLine := Nat.le_trans h (by decide)
theorem most_lt {n : Nat} (h : n < most) : n < sizeLine := Nat.lt_of_lt_of_le h (by decide)
theorem ite_some {c : Prop} [Decidable c] {α : Type} {x z : α} (h : (if c then some x else none) = some z) : c ∧ x = z := by
  by_cases hc : c
  · rw [if_pos hc] at h
    exact ⟨hc, Option.some.inj h⟩
  · rw [if_neg hc] at h
    cases h
section
variable {Γ : Gam} {e a b c : Expr} {ia ib ic i : IE} {pos : Pos}
/-! ### + - * // % ** -/
abbrev rAddD (K : PySem.W.Frag) : R2 := fun x y H Q => (rI0 (fun i j => .int (i + j)) x y H Q ∨ (∃ i j, x = .str i ∧ y = .str j ∧ i.length + j.length ≤ sizeLine ∧ Q (.str (i ++ j)) H)) ∨ (rCat x y H Q ∨ rCatA K x y H Q)
theorem bin_add (ha : SE Γ a ia) (hb : SE Γ b ib) : SE Γ (.BinOp a .Add b pos) (.bin .add ia ib) := fun X p o => PE_weak (pe_op (OpR.or (OpR.or op_add op_add_str) (OpR.or op_cat op_catA)) (ha X p o) (hb X p o)) fun σ H Q q => by
  refine tx_bin (f := binD .add) (fun env st => rfl) ?_ q
  intro st B M F env x y z v u H r px py h Q k
  rw [o.K]
  cases px with
  | int i =>
    cases py with
    | int j =>
      cases h
      exact .inl (.inl ⟨i, j, rfl, rfl, k _ B H (Ex.refl B) r (.int _)⟩)
    | _ => cases h
  | str s =>
    cases py with
    | str t =>
      obtain ⟨hl, rfl⟩ := ite_some (show (if s.length + t.length ≤ most then some (PyData.str (s ++ t)) else none) = some z from h)
      exact .inl (.inr ⟨s, t, rfl, rfl, most_line hl, k _ B H (Ex.refl B) r (.str _)⟩)
    | _ => cases h
  | @lst _ _ xs hx rx =>
    cases py with
    | @lst _ _ ys hy ry =>
      obtain ⟨hl, rfl⟩ := ite_some (show (if xs.length + ys.length ≤ most then some (PyData.list (xs ++ ys)) else none) = some z from h)
      · refine .inr (.inl ⟨_, _, _, _, rfl, rfl, r.bs.b _ _ hx, r.bs.b _ _ hy, most_line (by rw [rx.length, ry.length]; exact hl), fun q hq => ?_⟩)
        exact k (.ref q) _ _ (Ex.new (r.bs.b.free hq)) (r.new hq) (.lst upd_same ((rx.append ry).mono (Ex.new (r.bs.b.free hq))))
    | _ => cases h
  | @tup _ _ xs hx rx =>
    cases py with
    | @tup _ _ ys hy ry =>
      obtain ⟨hl, rfl⟩ := ite_some (show (if xs.length + ys.length ≤ most then some (PyData.tuple (xs ++ ys)) else none) = some z from h)
      · refine .inr (.inr ⟨_, _, _, _, rfl, rfl, sqt_mono r.bs.b hx, sqt_mono r.bs.b hy, most_line (by rw [rx.length, ry.length]; exact hl), fun e => ?_, fun e1 e2 => ?_, fun e1 e2 q hq => ?_⟩)
        · subst e
          cases rx
          exact k _ B H (Ex.refl B) r (.tup hy ry)
        · subst e2
          cases ry
          rw [List.append_nil] at k
          exact k _ B H (Ex.refl B) r (.tup hx rx)
        · exact k (.ref q) _ _ (Ex.new (r.bs.b.free hq)) (r.new hq) (.tup (Or.inl (Or.inl upd_same)) ((rx.append ry).mono (Ex.new (r.bs.b.free hq))))
    | _ => cases h
  | _ => cases h
theorem bin_int {op : Operator} {o : Bop} {C : Int → Int → Prop} {g : Int → Int → Int} (hop : ∀ X : Cx, OpR X (binaryOp op) (rI C fun i j => .int (g i j)))
    (hd : ∀ x y z, binD o x y = some z → ∃ i j, x = .int i ∧ y = .int j ∧ C i j ∧ z = .int (g i j)) (ha : SE Γ a ia) (hb : SE Γ b ib) : SE Γ (.BinOp a op b pos) (.bin o ia ib) := fun X p ok => PE_weak (pe_op (hop X) (ha X p ok) (hb X p ok)) fun σ H Q q => by
  refine tx_bin (f := binD o) (fun env st => by cases o <;> rfl) ?_ q
  intro st B M F env x y z v u H r px py h Q k
  obtain ⟨i, j, rfl, rfl, hc, rfl⟩ := hd _ _ _ h
  cases px
  cases py
  exact ⟨i, j, rfl, rfl, hc, k _ B H (Ex.refl B) r (.int _)⟩
theorem bin_sub (ha : SE Γ a ia) (hb : SE Γ b ib) : SE Γ (.BinOp a .Sub b pos) (.bin .sub ia ib) :=
  bin_int (C := fun _ _ => True) (g := fun i j => i - j) (fun X pins s σ H x y v u Q I rx ry ⟨i, j, e1, e2, _, q⟩ => op_sub pins s σ H x y v u Q I rx ry ⟨i, j, e1, e2, q⟩)
    (fun x y z h => by cases x <;> cases y <;> first | (cases h; done) | exact ⟨_, _, rfl, rfl, True.intro, (Option.some.inj h).symm⟩) ha hb
theorem bin_mul (ha : SE Γ a ia) (hb : SE Γ b ib) : SE Γ (.BinOp a .Mult b pos) (.bin .mul ia ib) :=
  bin_int (C := CMul) (g := fun i j => i * j) (fun _ => op_mul) (fun x y z h => by
    cases x <;> cases y <;> first | (cases h; done) | skip
    rename_i i j
    obtain ⟨hl, rfl⟩ := ite_some (show (if i.natAbs < 2 ^ 64 ∨ j.natAbs < 2 ^ 64 then some (PyData.int (i * j)) else none) = some z from h)
    refine ⟨_, _, rfl, rfl, ?_, rfl⟩
    rcases hl with hl | hl
    · exact .inl (by omega)
    · exact .inr (by omega)) ha hb
theorem bin_fdv (ha : SE Γ a ia) (hb : SE Γ b ib) : SE Γ (.BinOp a .FloorDiv b pos) (.bin .fdv ia ib) :=
  bin_int (C := CDiv) (g := fun i j => i / j) (fun _ => op_fdiv) (fun x y z h => by
    cases x <;> cases y <;> first | (cases h; done) | skip
    rename_i i j
    obtain ⟨hl, rfl⟩ := ite_some (show (if 0 < j ∧ j < 1073741824 then some (PyData.int (i / j)) else none) = some z from h)
    exact ⟨_, _, rfl, rfl, hl, rfl⟩) ha hb
theorem bin_mod (ha : SE Γ a ia) (hb : SE Γ b ib) : SE Γ (.BinOp a .Mod b pos) (.bin .mod ia ib) :=
  bin_int (C := fun _ j => 0 < j) (g := fun i j => i % j) (fun _ => op_mod) (fun x y z h => by
    cases x <;> cases y <;> first | (cases h; done) | skip
    rename_i i j
    obtain ⟨hl, rfl⟩ := ite_some (show (if 0 < j then some (PyData.int (i % j)) else none) = some z from h)
    exact ⟨_, _, rfl, rfl, hl, rfl⟩) ha hb
theorem bin_pow (ha : SE Γ a ia) (hb : SE Γ b ib) : SE Γ (.BinOp a .Pow b pos) (.bin .pow ia ib) :=
  bin_int (C := CPow) (g := fun i j => i ^ j.toNat) (fun _ => op_pow) (fun x y z h => by
    cases x <;> cases y <;> first | (cases h; done) | skip
    rename_i i j
    obtain ⟨hl, rfl⟩ := ite_some (show (if 0 ≤ j ∧ j ≤ 64 ∧ i.natAbs < 2 ^ 64 then some (PyData.int (i ^ j.toNat)) else none) = some z from h)
    exact ⟨_, _, rfl, rfl, ⟨hl.1, by omega, hl.2.2⟩, rfl⟩) ha hb
/-! ### comparisons -/
theorem tx_cmp {K : PySem.W.Frag} {cl : Cl} {o : Cop} {r : R2} {σ : L2.St} {H : Hp} {Q : VK}
    (hr : ∀ {st B M F env x y z v u H}, Rel K p st B M F env σ H → Rp K B v x → Rp K B u y → cmpD o x y = some z → ∀ Q : VK, Q (.bl z) H → r v u H Q)
    (q : Tx K cl p (.cmp o ia ib) σ H Q) : tOp r (Tx K cl p ia) (Tx K cl p ib) σ H Q := by
  obtain ⟨st, B, M, F, env, d, st', rl, he, k⟩ := q
  unfold ev at he
  cases e1 : ev cl ia env st with
  | none =>
    rw [e1] at he
    cases he
  | some xs =>
    obtain ⟨x, st1⟩ := xs
    rw [e1] at he
    cases e2 : ev cl ib env st1 with
    | none =>
      simp only [e2] at he
      cases he
    | some ys =>
      obtain ⟨y, st2⟩ := ys
      simp only [e2] at he
      cases e3 : cmpD o x y with
      | none =>
        rw [e3] at he
        cases he
      | some z =>
        rw [e3] at he
        cases he
        exact ⟨st, B, M, F, env, x, st1, rl, e1, fun v B1 H1 x1 r1 p1 => ⟨st1, B1, M, F, env, y, _, r1, e2, fun u B2 H2 x2 r2 p2 =>
          hr r2 (p1.mono x2) p2 e3 Q (k _ B2 H2 (x1.trans x2) r2 (.bl _))⟩⟩
theorem tt_cmp {K : PySem.W.Frag} {cl : Cl} {o : Cop} {r : R2} {σ : L2.St} {H : Hp} {Q : Bool → Hp → Prop}
    (hr : ∀ {st B M F env x y z v u H}, Rel K p st B M F env σ H → Rp K B v x → Rp K B u y → cmpD o x y = some z → ∀ Q : VK, Q (.bl z) H → r v u H Q)
    (q : Tt K cl p (.cmp o ia ib) σ H Q) : tTest (tOp r (Tx K cl p ia) (Tx K cl p ib)) σ H Q := by
  obtain ⟨st, B, M, F, env, b, st', rl, he, k⟩ := q
  refine tx_cmp hr ⟨st, B, M, F, env, _, st', rl, he, fun v B' H' x r pv => ?_⟩
  cases pv
  exact ⟨b, rfl, k B' H' x r⟩
/-- a comparison's rule, over data -/
structure CmpOk (op : CmpOp) (o : Cop) where
  r : PySem.W.Frag → R2
  ok : ∀ X : Cx, X.A.units + 64 < cLine → OpR X (compareOp op) (r X.K)
  rd : ∀ {K σ p st B M F env x y z v u H}, Rel K p st B M F env σ H → Rp K B v x → Rp K B u y → cmpD o x y = some z → ∀ Q : VK, Q (.bl z) H → r K v u H Q
theorem cmp_se {op : CmpOp} {o : Cop} (C : CmpOk op o) (ha : SE Γ a ia) (hb : SE Γ b ib) (hm : behindInMarks op b = false) : SE Γ (.Compare a [op] [b] pos) (.cmp o ia ib) := fun X p ok =>
  PE_weak (pe_cmpR (C.ok X (by have := ok.units; omega)) (ha X p ok) (hb X p ok) hm) fun σ H Q q => by
    rw [ok.K]
    exact tx_cmp (fun r1 p1 p2 e Q q => C.rd r1 p1 p2 e Q q) q
theorem cmp_st {op : CmpOp} {o : Cop} (C : CmpOk op o) (ha : SE Γ a ia) (hb : SE Γ b ib) (hm : behindInMarks op b = false) : ST Γ (.Compare a [op] [b] pos) (.cmp o ia ib) := fun X p ok =>
  PT_weak (pt_cmpR (C.ok X (by have := ok.units; omega)) (ha X p ok) (hb X p ok) hm) fun σ H Q q => by
    rw [ok.K]
    exact tt_cmp (fun r1 p1 p2 e Q q => C.rd r1 p1 p2 e Q q) q
theorem eq_rd {K : PySem.W.Frag} {σ : L2.St} {p : Pa} {st : Pl} {B M F : Hp} {env : List Sl} {x y : D} {z : Bool} {v u : V} {H : Hp} (r : Rel K p st B M F env σ H) (px : Rp K B v x) (py : Rp K B u y) (h : eqD x y = some z) :
    (scal v u = true ∧ decide (v = u) = z) ∨ (SeqAt.shaped x = true ∧ SeqAt.shaped y = true ∧ PyData.eqv x y = z) := by
  have sh : (if SeqAt.shaped x = true ∧ SeqAt.shaped y = true then some (PyData.eqv x y) else none) = some z → SeqAt.shaped x = true ∧ SeqAt.shaped y = true ∧ PyData.eqv x y = z := fun h => by
    obtain ⟨hl, e⟩ := ite_some h
    exact ⟨hl.1, hl.2, e⟩
  cases px with
  | str s =>
    cases py with
    | str t =>
      refine .inl ⟨rfl, ?_⟩
      cases h
      simp
    | int i =>
      cases h
      exact .inl ⟨rfl, by simp⟩
    | _ => exact .inr (sh h)
  | int i =>
    cases py with
    | int j =>
      refine .inl ⟨rfl, ?_⟩
      cases h
      simp
    | str t =>
      cases h
      exact .inl ⟨rfl, by simp⟩
    | _ => exact .inr (sh h)
  | bl a =>
    cases py with
    | bl b =>
      refine .inl ⟨rfl, ?_⟩
      cases h
      simp
    | _ => exact .inr (sh h)
  | _ => exact .inr (sh (by cases py <;> exact h))
def cEq : CmpOk .Eq .eq where
  r := fun K x y H Q => rEq x y H Q ∨ rEqD K x y H Q
  ok := fun X hu => OpR.or op_eq (op_eqD hu)
  rd := fun {K σ p st B M F env x y z v u H} r px py h Q q => by
    rcases eq_rd (σ := σ) r px py h with ⟨h1, h2⟩ | ⟨h1, h2, h3⟩
    · exact .inl ⟨h1, by rw [h2]; exact q⟩
    · exact .inr ⟨x, y, px.dp r.bs.b, py.dp r.bs.b, h1, h2, by rw [h3]; exact q⟩
def cNe : CmpOk .NotEq .ne where
  r := fun K x y H Q => rNe x y H Q ∨ rNeD K x y H Q
  ok := fun X hu => OpR.or op_ne (op_neD hu)
  rd := fun {K σ p st B M F env x y z v u H} r px py h Q q => by
    obtain ⟨w, hw, rfl⟩ := Option.map_eq_some_iff.mp (show (eqD x y).map (!·) = some z from h)
    rcases eq_rd (σ := σ) r px py hw with ⟨h1, h2⟩ | ⟨h1, h2, h3⟩
    · exact .inl ⟨h1, by rw [h2]; exact q⟩
    · exact .inr ⟨x, y, px.dp r.bs.b, py.dp r.bs.b, h1, h2, by rw [h3]; exact q⟩
def cInt {op : CmpOp} {o : Cop} (g : Int → Int → Bool) (hop : ∀ X : Cx, OpR X (compareOp op) (rI0 fun i j => .bl (g i j))) (hd : ∀ x y z, cmpD o x y = some z → ∃ i j, x = .int i ∧ y = .int j ∧ z = g i j) : CmpOk op o where
  r := fun _ => rI0 fun i j => .bl (g i j)
  ok := fun X _ => hop X
  rd := fun {K σ p st B M F env x y z v u H} r px py h Q q => by
    obtain ⟨i, j, rfl, rfl, rfl⟩ := hd _ _ _ h
    cases px
    cases py
    exact ⟨i, j, rfl, rfl, q⟩
def cLt : CmpOk .Lt .lt := cInt (fun i j => decide (i < j)) (fun _ => op_lt) fun x y z h => by cases x <;> cases y <;> first | (cases h; done) | exact ⟨_, _, rfl, rfl, (Option.some.inj h).symm⟩
def cLe : CmpOk .LtE .le := cInt (fun i j => decide (i ≤ j)) (fun _ => op_le) fun x y z h => by cases x <;> cases y <;> first | (cases h; done) | exact ⟨_, _, rfl, rfl, (Option.some.inj h).symm⟩
def cGt : CmpOk .Gt .gt := cInt (fun i j => decide (j < i)) (fun _ => op_gt) fun x y z h => by cases x <;> cases y <;> first | (cases h; done) | exact ⟨_, _, rfl, rfl, (Option.some.inj h).symm⟩
def cGe : CmpOk .GtE .ge := cInt (fun i j => decide (j ≤ i)) (fun _ => op_ge) fun x y z h => by cases x <;> cases y <;> first | (cases h; done) | exact ⟨_, _, rfl, rfl, (Option.some.inj h).symm⟩
theorem isNon_rp {K : PySem.W.Frag} {B : Hp} {v : V} {x : D} (h : Rp K B v x) : decide (v = .non) = (match x with
    | .none => true
    | _ => false) := by
  cases h <;> simp
def cIs : CmpOk .Is .isN where
  r := fun _ => fun x y H Q => y = .non ∧ Q (.bl (decide (x = .non))) H
  ok := fun X _ => op_isN
  rd := fun {K σ p st B M F env x y z v u H} r px py h Q q => by
    cases py with
    | non =>
      refine ⟨rfl, ?_⟩
      rw [isNon_rp px]
      cases px <;> (cases h; exact q)
    | _ => cases px <;> (cases h; done)
def cIsN : CmpOk .IsNot .noN where
  r := fun _ => fun x y H Q => y = .non ∧ Q (.bl (!decide (x = .non))) H
  ok := fun X _ => op_notN
  rd := fun {K σ p st B M F env x y z v u H} r px py h Q q => by
    cases py with
    | non =>
      refine ⟨rfl, ?_⟩
      rw [isNon_rp px]
      cases px <;> (cases h; exact q)
    | _ => cases px <;> (cases h; done)
theorem flat_rp {K : PySem.W.Frag} {B : Hp} {v : V} {x : D} (h : Rp K B v x) : flatV v = flatD x := by cases h <;> rfl
theorem flat_all {K : PySem.W.Frag} {B : Hp} : ∀ {vs : List V} {xs : List D}, RpA K B vs xs → vs.all flatV = xs.all flatD
  | _, _, .nil => rfl
  | _, _, .cons h r => by rw [List.all_cons, List.all_cons, flat_rp h, flat_all r]
theorem eqv_rp {K : PySem.W.Frag} {B : Hp} {v u : V} {x y : D} (h : Rp K B v x) (g : Rp K B u y) (fx : flatD x = true) (fy : flatD y = true) : eqV v u = PyData.eqv x y := by
  cases h <;> cases g <;> first | rfl | (exact nomatch fx) | (exact nomatch fy)
theorem mem_rp {K : PySem.W.Frag} {B : Hp} {u : V} {x : D} (h : Rp K B u x) (fx : flatD x = true) : ∀ {vs : List V} {ys : List D}, RpA K B vs ys → ys.all flatD = true → inV u vs = memD x ys
  | _, _, .nil, _ => rfl
  | _, _, .cons g r, f => by
    rw [List.all_cons, Bool.and_eq_true] at f
    have ih := mem_rp h fx r f.2
    unfold inV memD at ih ⊢
    rw [List.any_cons, List.any_cons, eqv_rp g h f.1 fx, ih]
def rInD (neg : Bool) (K : PySem.W.Frag) : R2 := fun x y H Q => rIn K neg x y H Q ∨ ∃ (c : Nat) (z : Str), x = .str ⟨#[c]⟩ ∧ y = .str z ∧ Q (.bl (if neg then !decide (c ∈ z.cps.toList) else decide (c ∈ z.cps.toList))) H
theorem str_one {s : Str} (h : s.length = 1) : s = ⟨#[s.cps.getD 0 0]⟩ := by
  obtain ⟨⟨l⟩⟩ := s
  match l, h with
  | [c], _ => rfl
theorem in_rd {neg : Bool} {K : PySem.W.Frag} {σ : L2.St} {p : Pa} {st : Pl} {B M F : Hp} {env : List Sl} {x y : D} {z : Bool} {v u : V} {H : Hp} (r : Rel K p st B M F env σ H) (px : Rp K B v x) (py : Rp K B u y) (h : inD x y = some z) (Q : VK)
    (q : Q (.bl (if neg then !z else z)) H) : rInD neg K v u H Q := by
  cases py with
  | @lst a xs ys hy ry =>
    obtain ⟨hl, rfl⟩ := ite_some (show (if flatD x = true ∧ ys.all flatD = true then some (memD x ys) else none) = some z from h)
    refine .inl ⟨a, xs, rfl, .inl (Or.inl (Or.inl (r.bs.b _ _ hy))), by rw [flat_rp px]; exact hl.1, by rw [flat_all ry]; exact hl.2, ?_⟩
    rw [mem_rp px hl.1 ry hl.2]
    exact q
  | @tup a xs ys hy ry =>
    obtain ⟨hl, rfl⟩ := ite_some (show (if flatD x = true ∧ ys.all flatD = true then some (memD x ys) else none) = some z from h)
    refine .inl ⟨a, xs, rfl, .inr (sqt_mono r.bs.b hy), by rw [flat_rp px]; exact hl.1, by rw [flat_all ry]; exact hl.2, ?_⟩
    rw [mem_rp px hl.1 ry hl.2]
    exact q
  | str t =>
    cases px with
    | str s =>
      obtain ⟨hl, rfl⟩ := ite_some (show (if s.length = 1 then some (decide (s.cps.getD 0 0 ∈ t.cps.toList)) else none) = some z from h)
      exact .inr ⟨_, t, congrArg V.str (str_one hl), rfl, q⟩
    | _ => cases h
  | _ => cases h
def cIn : CmpOk .In .isin where
  r := rInD false
  ok := fun X _ => OpR.or op_in_seq op_in_sign
  rd := fun r px py h Q q => in_rd (neg := false) r px py h Q q
def cNotIn : CmpOk .NotIn .notin where
  r := rInD true
  ok := fun X _ => OpR.or op_notIn_seq op_notIn_sign
  rd := fun {K σ p st B M F env x y z v u H} r px py h Q q => by
    obtain ⟨w, hw, rfl⟩ := Option.map_eq_some_iff.mp (show (inD x y).map (!·) = some z from h)
    exact in_rd (neg := true) r px py hw Q q
end
end Ip

set_option Elab.async false
set_option linter.all false
set_option maxRecDepth 100000
set_option maxHeartbeats 4000000
namespace Ip
open PySem L2
section
variable {Γ : Gam} {e a b c : Expr} {es rest : List Expr} {ia ib ic i : IE} {ies : IEs} {pos : Pos}
/-! ### and, or, not, - -/
theorem ev_and {cl : Cl} {env : List Sl} {st : Pl} {d : D × Pl} (h : ev cl (.and ia ib) env st = some d) : (∃ st1, ev cl ia env st = some (.bool true, st1) ∧ ev cl ib env st1 = some d) ∨ (∃ st1, ev cl ia env st = some (.bool false, st1) ∧ d = (.bool false, st1)) := by
  unfold ev at h
  split at h
  · rename_i st1 e1
    exact .inl ⟨st1, e1, h⟩
  · rename_i st1 e1
    exact .inr ⟨st1, e1, (Option.some.inj h).symm⟩
  · cases h
theorem ev_or {cl : Cl} {env : List Sl} {st : Pl} {d : D × Pl} (h : ev cl (.or ia ib) env st = some d) : (∃ st1, ev cl ia env st = some (.bool false, st1) ∧ ev cl ib env st1 = some d) ∨ (∃ st1, ev cl ia env st = some (.bool true, st1) ∧ d = (.bool true, st1)) := by
  unfold ev at h
  split at h
  · rename_i st1 e1
    exact .inr ⟨st1, e1, (Option.some.inj h).symm⟩
  · rename_i st1 e1
    exact .inl ⟨st1, e1, h⟩
  · cases h
theorem ev_not {cl : Cl} {env : List Sl} {st : Pl} {d : D × Pl} (h : ev cl (.not ia) env st = some d) : ∃ b st1, ev cl ia env st = some (.bool b, st1) ∧ d = (.bool (!b), st1) := by
  unfold ev at h
  split at h
  · rename_i b st1 e1
    exact ⟨b, st1, e1, (Option.some.inj h).symm⟩
  · cases h
theorem st_se (h : SE Γ e i) (he : ∀ env whole, isTrue e env whole = (do let v ← whole; standAt e.pos; holding [v] (truthy v)) := by intro _ _; rfl) : ST Γ e i := fun X p o =>
  PT_weak (pt_val (h X p o) (fun w => he X.env w)) fun σ H Q q => by
    obtain ⟨st, B, M, F, env, b, st', r, he, k⟩ := q
    refine ⟨st, B, M, F, env, _, st', r, he, fun v B' H' x r' pv => ?_⟩
    cases pv
    exact ⟨b, rfl, k B' H' x r'⟩
theorem se_one {op : BoolOp} (h : SE Γ a i) : SE Γ (.BoolOp op [a] pos) i := fun X p o => pe_one (h X p o)
theorem se_and (ha : SE Γ a ia) (hb : SE Γ (.BoolOp .And (b :: rest) pos) ib) : SE Γ (.BoolOp .And (a :: b :: rest) pos) (.and ia ib) := fun X p o => PE_weak (pe_and (ha X p o) (hb X p o)) fun σ H Q q => by
  obtain ⟨st, B, M, F, env, d, st', r, he, k⟩ := q
  rcases ev_and he with ⟨st1, e1, e2⟩ | ⟨st1, e1, e2⟩
  · refine ⟨st, B, M, F, env, _, st1, r, e1, fun v B1 H1 x1 r1 p1 => ?_⟩
    cases p1
    refine ⟨true, rfl, iteT ⟨st1, B1, M, F, env, d, st', r1, e2, fun v B' H' x2 r2 p2 => k v B' H' (x1.trans x2) r2 p2⟩⟩
  · cases e2
    refine ⟨st, B, M, F, env, _, _, r, e1, fun v B1 H1 x1 r1 p1 => ?_⟩
    cases p1
    exact ⟨false, rfl, iteF (k _ B1 H1 x1 r1 (.bl _))⟩
theorem se_or (ha : SE Γ a ia) (hb : SE Γ (.BoolOp .Or (b :: rest) pos) ib) : SE Γ (.BoolOp .Or (a :: b :: rest) pos) (.or ia ib) := fun X p o => PE_weak (pe_or (ha X p o) (hb X p o)) fun σ H Q q => by
  obtain ⟨st, B, M, F, env, d, st', r, he, k⟩ := q
  rcases ev_or he with ⟨st1, e1, e2⟩ | ⟨st1, e1, e2⟩
  · refine ⟨st, B, M, F, env, _, st1, r, e1, fun v B1 H1 x1 r1 p1 => ?_⟩
    cases p1
    refine ⟨false, rfl, iteF ⟨st1, B1, M, F, env, d, st', r1, e2, fun v B' H' x2 r2 p2 => k v B' H' (x1.trans x2) r2 p2⟩⟩
  · cases e2
    refine ⟨st, B, M, F, env, _, _, r, e1, fun v B1 H1 x1 r1 p1 => ?_⟩
    cases p1
    exact ⟨true, rfl, iteT (k _ B1 H1 x1 r1 (.bl _))⟩
theorem se_not (ha : SE Γ a ia) : SE Γ (.UnaryOp .Not a pos) (.not ia) := fun X p o => PE_weak (pe_not (ha X p o)) fun σ H Q q => by
  obtain ⟨st, B, M, F, env, d, st', r, he, k⟩ := q
  obtain ⟨b, st1, e1, e2⟩ := ev_not he
  cases e2
  refine ⟨st, B, M, F, env, _, _, r, e1, fun v B1 H1 x1 r1 p1 => ?_⟩
  cases p1
  exact ⟨b, rfl, k _ B1 H1 x1 r1 (.bl _)⟩
theorem se_neg (ha : SE Γ a ia) : SE Γ (.UnaryOp .USub a pos) (.neg ia) := fun X p o => PE_weak (pe_un un_neg (ha X p o)) fun σ H Q q => by
  obtain ⟨st, B, M, F, env, d, st', r, he, k⟩ := q
  unfold ev at he
  split at he
  · rename_i n st1 e1
    cases he
    refine ⟨st, B, M, F, env, _, _, r, e1, fun v B1 H1 x1 r1 p1 => ?_⟩
    cases p1
    exact ⟨n, rfl, k _ B1 H1 x1 r1 (.int _)⟩
  · cases he
theorem sw_and1 (h : ST Γ a i) : SW Γ (.BoolOp .And [a] pos) i := fun X p o => pw_and1 (h X p o)
theorem sw_or1 (h : ST Γ a i) : SW Γ (.BoolOp .Or [a] pos) i := fun X p o => pw_or1 (h X p o)
theorem sw_and (ha : ST Γ a ia) (hb : SW Γ (.BoolOp .And (b :: rest) pos) ib) : SW Γ (.BoolOp .And (a :: b :: rest) pos) (.and ia ib) := fun X p o => PW_weak (pw_and (ha X p o) (hb X p o)) fun σ H Q q => by
  obtain ⟨st, B, M, F, env, d, st', r, he, k⟩ := q
  rcases ev_and he with ⟨st1, e1, e2⟩ | ⟨st1, e1, e2⟩
  · exact ⟨st, B, M, F, env, true, st1, r, e1, fun B1 H1 x1 r1 => iteT ⟨st1, B1, M, F, env, d, st', r1, e2, fun B' H' x2 r2 => k B' H' (x1.trans x2) r2⟩⟩
  · cases e2
    exact ⟨st, B, M, F, env, false, _, r, e1, fun B1 H1 x1 r1 => iteF (k B1 H1 x1 r1)⟩
theorem sw_or (ha : ST Γ a ia) (hb : SW Γ (.BoolOp .Or (b :: rest) pos) ib) : SW Γ (.BoolOp .Or (a :: b :: rest) pos) (.or ia ib) := fun X p o => PW_weak (pw_or (ha X p o) (hb X p o)) fun σ H Q q => by
  obtain ⟨st, B, M, F, env, d, st', r, he, k⟩ := q
  rcases ev_or he with ⟨st1, e1, e2⟩ | ⟨st1, e1, e2⟩
  · exact ⟨st, B, M, F, env, false, st1, r, e1, fun B1 H1 x1 r1 => iteF ⟨st1, B1, M, F, env, d, st', r1, e2, fun B' H' x2 r2 => k B' H' (x1.trans x2) r2⟩⟩
  · cases e2
    exact ⟨st, B, M, F, env, true, _, r, e1, fun B1 H1 x1 r1 => iteT (k B1 H1 x1 r1)⟩
theorem st_sw (h : SW Γ e i) : ST Γ e i := fun X p o => (h X p o).pt
theorem st_not (ha : ST Γ a ia) : ST Γ (.UnaryOp .Not a pos) (.not ia) := fun X p o => PT_weak (pt_not (ha X p o)) fun σ H Q q => by
  obtain ⟨st, B, M, F, env, d, st', r, he, k⟩ := q
  obtain ⟨b, st1, e1, e2⟩ := ev_not he
  cases e2
  exact ⟨st, B, M, F, env, b, _, r, e1, fun B1 H1 x1 r1 => k B1 H1 x1 r1⟩
theorem se_ifx (hc : ST Γ c ic) (ha : SE Γ a ia) (hb : SE Γ b ib) : SE Γ (.IfExp c a b pos) (.ifx ic ia ib) := fun X p o => PE_weak (pe_ifExp (hc X p o) (ha X p o) (hb X p o)) fun σ H Q q => by
  obtain ⟨st, B, M, F, env, d, st', r, he, k⟩ := q
  unfold ev at he
  split at he
  · rename_i st1 e1
    exact ⟨st, B, M, F, env, true, st1, r, e1, fun B1 H1 x1 r1 => iteT ⟨st1, B1, M, F, env, d, st', r1, he, fun v B' H' x2 r2 p2 => k v B' H' (x1.trans x2) r2 p2⟩⟩
  · rename_i st1 e1
    exact ⟨st, B, M, F, env, false, st1, r, e1, fun B1 H1 x1 r1 => iteF ⟨st1, B1, M, F, env, d, st', r1, he, fun v B' H' x2 r2 p2 => k v B' H' (x1.trans x2) r2 p2⟩⟩
  · cases he
/-! ### arguments -/
theorem sa_nil : SA Γ [] .nil := fun X p o => PA_weak pa_nil fun σ H Q q => by
  obtain ⟨st, B, M, F, env, ds, st', r, he, k⟩ := q
  unfold ea at he
  cases he
  exact k [] B H (Ex.refl B) r .nil
theorem sa_cons (he : SE Γ e i) (hr : SA Γ es ies) (hs : ∀ env, starEach (e :: es) env = (false, eval e env) :: starEach es env := by intro _; rfl) : SA Γ (e :: es) (.cons i ies) := fun X p o => PA_weak (pa_cons (he X p o) (hr X p o) (hs _)) fun σ H Q q => by
  obtain ⟨st, B, M, F, env, ds, st', r, he, k⟩ := q
  unfold ea at he
  cases e1 : ev Γ.cl i env st with
  | none =>
    rw [e1] at he
    cases he
  | some xs =>
    obtain ⟨x, st1⟩ := xs
    rw [e1] at he
    cases e2 : ea Γ.cl ies env st1 with
    | none =>
      simp only [e2] at he
      cases he
    | some ys =>
      obtain ⟨ys, st2⟩ := ys
      simp only [e2] at he
      cases he
      exact ⟨st, B, M, F, env, x, st1, r, e1, fun v B1 H1 x1 r1 p1 => ⟨st1, B1, M, F, env, ys, _, r1, e2, fun vs B2 H2 x2 r2 p2 => k _ B2 H2 (x1.trans x2) r2 (.cons (p1.mono x2) p2)⟩⟩
theorem ArA.mono {K : PySem.W.Frag} {p : Pa} {B B' : Hp} (x : Ex B B') : ∀ {vs : List V} {ds : List (Option D)}, ArA K p B vs ds → ArA K p B' vs ds
  | _, _, .nil => .nil
  | _, _, .cons h r => .cons (h.mono x) (ArA.mono x r)
  | _, _, .pool r => .pool (ArA.mono x r)
theorem sg_nil : SG Γ [] .nil := fun X p o => PA_weak pa_nil fun σ H Q q => by
  obtain ⟨st, B, M, F, env, ds, st', r, he, k⟩ := q
  unfold ag at he
  cases he
  exact k [] B H (Ex.refl B) r .nil
theorem sg_cons (he : SE Γ e i) (hr : SG Γ es ies) (hs : ∀ env, starEach (e :: es) env = (false, eval e env) :: starEach es env := by intro _; rfl) : SG Γ (e :: es) (.cons i ies) := fun X p o => PA_weak (pa_cons (he X p o) (hr X p o) (hs _)) fun σ H Q q => by
  obtain ⟨st, B, M, F, env, ds, st', r, he, k⟩ := q
  unfold ag at he
  cases e1 : ev Γ.cl i env st with
  | none =>
    rw [e1] at he
    cases he
  | some xs =>
    obtain ⟨x, st1⟩ := xs
    rw [e1] at he
    cases e2 : ag Γ.cl ies env st1 with
    | none =>
      simp only [e2] at he
      cases he
    | some ys =>
      obtain ⟨ys, st2⟩ := ys
      simp only [e2] at he
      cases he
      exact ⟨st, B, M, F, env, x, st1, r, e1, fun v B1 H1 x1 r1 p1 => ⟨st1, B1, M, F, env, ys, _, r1, e2, fun vs B2 H2 x2 r2 p2 => k _ B2 H2 (x1.trans x2) r2 (.cons (p1.mono x2) p2)⟩⟩
theorem sg_pool (n : Nat) {x : Str} (hr : SG Γ es ies) (hN : Γ.N[n]? = some x := by rfl) (hv : Vis Γ.sc x := by first | exact Or.inl rfl | exact Or.inr (Or.inl rfl) | exact Or.inr (Or.inr rfl)) (hd : (x == ("__debug__" : Str)) = false := by decide) (hcd : (x == ("__classdict__" : Str)) = false := by decide)
    (hs : ∀ env, starEach (.Name x pos :: es) env = (false, eval (.Name x pos) env) :: starEach es env := by intro _; rfl) : SG Γ (.Name x pos :: es) (.pool n ies) := fun X p o =>
  PA_weak (pa_cons (pe_var (i := n) (by rw [o.N]; exact hN) (by rw [o.sc]; exact hv) hd hcd) (hr X p o) (hs _)) fun σ H Q q => by
  obtain ⟨st, B, M, F, env, ds, st', r, he, k⟩ := q
  unfold ag at he
  split at he
  · rename_i e1
    cases e2 : ag Γ.cl ies env st with
    | none =>
      simp only [e2] at he
      cases he
    | some ys =>
      obtain ⟨ys, st2⟩ := ys
      simp only [e2] at he
      cases he
      obtain ⟨ov, h1, h2⟩ := r.en.at_ n _ e1
      cases ov with
      | none => exact h2.elim
      | some v =>
        cases v with
        | ref q =>
          obtain rfl : q = p := h2
          exact ⟨_, h1, st, B, M, F, env, ys, _, r, e2, fun vs B2 H2 x2 r2 p2 => k _ B2 H2 x2 r2 (.pool p2)⟩
        | _ => exact h2.elim
  · cases he
/-! ### displays -/
theorem tup_se (h : SA Γ es ies) {x1} : SE Γ (.Tuple es x1 pos) (.tup ies) := fun X p o => PE_weak (pe_tup (h X p o)) fun σ H Q q => by
  obtain ⟨st, B, M, F, env, d, st', r, he, k⟩ := q
  unfold ev at he
  cases e1 : ea Γ.cl ies env st with
  | none =>
    rw [e1] at he
    cases he
  | some ys =>
    obtain ⟨ys, st1⟩ := ys
    rw [e1] at he
    obtain ⟨hl, he⟩ := ite_some he
    cases he
    refine ⟨st, B, M, F, env, ys, _, r, e1, fun vs B1 H1 x1 r1 p1 => ⟨most_line (by rw [p1.length]; exact hl), fun q hq => ?_⟩⟩
    exact k (.ref q) _ _ (x1.trans (Ex.new (r1.bs.b.free hq))) (r1.new hq) (.tup (Or.inl (Or.inl upd_same)) (p1.mono (Ex.new (r1.bs.b.free hq))))
theorem ev_lst {cl : Cl} {env : List Sl} {st : Pl} {d : D} {st' : Pl} (he : ev cl (.lst ies) env st = some (d, st')) : ∃ ys, ea cl ies env st = some (ys, st') ∧ ys.length ≤ most ∧ d = .list ys := by
  unfold ev at he
  cases e1 : ea cl ies env st with
  | none =>
    rw [e1] at he
    cases he
  | some ys =>
    obtain ⟨ys, st1⟩ := ys
    rw [e1] at he
    obtain ⟨hl, he⟩ := ite_some he
    cases he
    exact ⟨ys, rfl, hl, rfl⟩
theorem Rel.freshM {K : PySem.W.Frag} {p : Pa} {st : Pl} {B M F : Hp} {env : List Sl} {σ : L2.St} {H : Hp} (r : Rel K p st B M F env σ H) {q : Addr} (h : H q = none) : B q = none ∧ M q = none ∧ F q = none ∧ q ≠ p := ⟨r.bs.b.free h, r.m.free h, r.bs.f.free h, r.bs.pn h⟩
/-- the heap grows by something that nobody speaks of -/
theorem Rel.more {K : PySem.W.Frag} {p : Pa} {st : Pl} {B M F : Hp} {env : List Sl} {σ : L2.St} {H : Hp} (r : Rel K p st B M F env σ H) {q : Addr} {o : HO} (h : H q = none) : Rel K p st B M F env σ (upd H q o) where
  bs := {
    b := r.bs.b.right (r.bs.b.free h)
    f := r.bs.f.right (r.bs.f.free h)
    d := r.bs.d
    pf := r.bs.pf
    pb := r.bs.pb
    pl := by
      obtain ⟨h1, h2⟩ := r.bs.pl
      exact ⟨by rw [upd_ne (fun e => r.bs.pn h e.symm)]; exact h1, h2⟩ }
  m := r.m.right (r.m.free h)
  md := r.md
  en := r.en
theorem lst_sf (h : SA Γ es ies) : SF Γ (.List es pos) (.lst ies) := fun X p o => PE_weak (pe_lst (h X p o)) fun σ H Q q => by
  obtain ⟨st, B, M, F, env, ds, st', r, he, k⟩ := q
  obtain ⟨ys, e1, hl, e2⟩ := ev_lst he
  cases e2
  refine ⟨st, B, M, F, env, ds, _, r, e1, fun vs B1 H1 x1 r1 p1 => ⟨most_line (by rw [p1.length]; exact hl), fun q hq => ?_⟩⟩
  obtain ⟨h1, h2, h3, h4⟩ := r1.freshM hq
  exact k q vs B1 _ x1 h1 h2 h3 h4 upd_same p1 (r1.more hq)
theorem lst_se (h : SA Γ es ies) : SE Γ (.List es pos) (.lst ies) := (lst_sf h).se fun _ _ _ _ _ he => by
  obtain ⟨ys, _, _, e⟩ := ev_lst he
  exact ⟨ys, e⟩
/-! ### subscripts, slices -/
theorem RpA.atI {K : PySem.W.Frag} {B : Hp} {vs : List V} {ds : List D} {n : Int} {d : D} (r : RpA K B vs ds) (h : atI ds n = some d) : ∃ v, atI vs n = some v ∧ Rp K B v d := by
  unfold L2.atI at h ⊢
  obtain ⟨j, h1, h2⟩ := Option.bind_eq_some_iff.mp h
  rw [r.length, h1]
  exact r.get h2
theorem ix_se (ha : SE Γ a ia) (hb : SE Γ b ib) (hs : PlainIx b := by intro _ _; rfl) : SE Γ (.Subscript a b pos) (.ix ia ib) := fun X p o => PE_weak (pe_ix (IxR.or ix_list (IxR.or ix_tup ix_str)) (ha X p o) (hb X p o) hs) fun σ H Q q => by
  rw [o.K]
  refine tx_bin (f := ixD) (fun env st => rfl) ?_ q
  intro st B M F env x y z v u H r px py h Q k
  cases py with
  | int n =>
    cases px with
    | @lst a xs ds hx rx =>
      obtain ⟨v, h1, h2⟩ := rx.atI h
      exact .inl ⟨a, xs, n, v, rfl, rfl, Or.inl (Or.inl (r.bs.b _ _ hx)), h1, k v B H (Ex.refl B) r h2⟩
    | @tup a xs ds hx rx =>
      obtain ⟨v, h1, h2⟩ := rx.atI h
      exact .inr (.inl ⟨a, xs, n, v, rfl, rfl, sqt_mono r.bs.b hx, h1, k v B H (Ex.refl B) r h2⟩)
    | str s =>
      have h' : (if s.length ≤ most then (atI s.cps.toList n).map fun c => PyData.str ⟨#[c]⟩ else none) = some z := h
      by_cases hl : s.length ≤ most
      · rw [if_pos hl] at h'
        obtain ⟨c, h1, rfl⟩ := Option.map_eq_some_iff.mp h'
        exact .inr (.inr ⟨s, n, c, rfl, rfl, most_line hl, h1, k _ B H (Ex.refl B) r (.str _)⟩)
      · rw [if_neg hl] at h'
        cases h'
    | _ => cases h
  | _ => cases px <;> (cases h; done)
theorem so_non : SO Γ none .non := fun X p o => PO_weak po_none fun σ H Q q => by
  obtain ⟨st, B, M, F, env, l, st', r, he, k⟩ := q
  unfold eo at he
  cases he
  exact k B H (Ex.refl B) r
theorem so_some (h : SE Γ e i) : SO Γ (some e) (.some i) := fun X p o => PO_weak (po_some (h X p o)) fun σ H Q q => by
  obtain ⟨st, B, M, F, env, l, st', r, he, k⟩ := q
  unfold eo at he
  split at he
  · rename_i n st1 e1
    cases he
    refine ⟨st, B, M, F, env, _, _, r, e1, fun v B1 H1 x1 r1 p1 => ?_⟩
    cases p1
    exact ⟨n, rfl, k B1 H1 x1 r1⟩
  · cases he
theorem RpA.cut {K : PySem.W.Frag} {B : Hp} {vs : List V} {ds : List D} (r : RpA K B vs ds) (lo hi : Option Int) : RpA K B (cutV vs lo hi) (cutD ds lo hi) := by
  unfold cutV cutD
  rw [r.length]
  exact (r.drop _).take _
theorem cut_whole {vs : List V} {lo hi : Option Int} (h : HT.sIx vs.length 0 lo = 0 ∧ HT.sIx vs.length vs.length hi = vs.length) : cutV vs lo hi = vs := by
  unfold cutV
  rw [h.1, h.2]
  simp
theorem sl_se {lo hi : Option Expr} {l u : IO} {p2 : Pos} (ha : SE Γ a ia) (hl : SO Γ lo l) (hu : SO Γ hi u) : SE Γ (.Subscript a (.Slice lo hi none p2) pos) (.sl ia l u) := fun X p o => PE_weak (pe_slice (SlR.or sl_list (SlR.or sl_tupA sl_str)) (ha X p o) (hl X p o) (hu X p o)) fun σ H Q q => by
  rw [o.K]
  obtain ⟨st, B, M, F, env, d, st', r, he, k⟩ := q
  unfold ev at he
  cases e1 : ev Γ.cl ia env st with
  | none =>
    rw [e1] at he
    cases he
  | some xs =>
    obtain ⟨x, st1⟩ := xs
    rw [e1] at he
    cases e2 : eo Γ.cl l env st1 with
    | none =>
      simp only [e2] at he
      cases he
    | some ys =>
      obtain ⟨y, st2⟩ := ys
      simp only [e2] at he
      cases e3 : eo Γ.cl u env st2 with
      | none =>
        simp only [e3] at he
        cases he
      | some zs =>
        obtain ⟨z, st3⟩ := zs
        simp only [e3] at he
        obtain ⟨w, e4, e5⟩ := Option.map_eq_some_iff.mp he
        cases e5
        refine ⟨st, B, M, F, env, x, st1, r, e1, fun v B1 H1 x1 r1 p1 => ⟨st1, B1, M, F, env, y, st2, r1, e2, fun B2 H2 x2 r2 => ⟨st2, B2, M, F, env, z, _, r2, e3, fun B3 H3 x3 r3 => ?_⟩⟩⟩
        have pv := p1.mono (x2.trans x3)
        have xx := (x1.trans x2).trans x3
        cases pv with
        | @lst a xs ds hx rx =>
          cases e4
          refine .inl ⟨a, xs, rfl, Or.inl (Or.inl (r3.bs.b _ _ hx)), fun q hq => ?_⟩
          exact k (.ref q) _ _ (xx.trans (Ex.new (r3.bs.b.free hq))) (r3.new hq) (.lst upd_same ((rx.cut y z).mono (Ex.new (r3.bs.b.free hq))))
        | @tup a xs ds hx rx =>
          cases e4
          refine .inr (.inl ⟨a, xs, rfl, sqt_mono r3.bs.b hx, fun hw => ?_, fun _ q hq => ?_⟩)
          · have rc := rx.cut y z
            rw [cut_whole hw] at rc
            exact k (.ref a) B3 H3 xx r3 (.tup hx rc)
          · exact k (.ref q) _ _ (xx.trans (Ex.new (r3.bs.b.free hq))) (r3.new hq) (.tup (Or.inl (Or.inl upd_same)) ((rx.cut y z).mono (Ex.new (r3.bs.b.free hq))))
        | str s =>
          obtain ⟨hl, rfl⟩ := ite_some (show (if s.length ≤ most then some (PyData.str (cutS s y z)) else none) = some _ from e4)
          exact .inr (.inr ⟨s, rfl, most_line hl, k _ B3 H3 xx r3 (.str _)⟩)
        | _ => cases e4
end
end Ip

set_option Elab.async false
set_option linter.all false
set_option maxRecDepth 100000
set_option maxHeartbeats 4000000
/-! enumerate(x), zip(x, y): lists and tuples, in any mixture. -/
namespace Ip
open PySem PySem.Spec PyProof.Rows L2
open AutoSeq1 (wpAny_loadPart')
/-- a list (true) or a tuple (false) -/
def SqB (K : PySem.W.Frag) (b : Bool) (H : Hp) (a : Addr) (xs : List V) : Prop := (b = true ∧ SqL K H a xs) ∨ (b = false ∧ SqT K H a xs)
def isB (b : Bool) (h : Heap) (a : Addr) (its : Array Value) : Prop := (b = true ∧ h.IsList a its) ∨ (b = false ∧ h.IsTuple a its)
def itB (b : Bool) (h : Heap) (it a : Addr) (i : Nat) : Prop := (b = true ∧ h.IsListIter it a i) ∨ (b = false ∧ h.IsTupleIter it a i)
def obB (b : Bool) (a : Addr) : Obj := if b then ⟨.type "list_iterator", none, .fields #[.ref a, .int 0 0], #[]⟩ else ⟨.type "tuple_iterator", none, .fields #[.ref a, .int 0 0], #[]⟩
def knB (b : Bool) : String := if b then "list" else "tuple"
def knI (b : Bool) : String := if b then "list_iterator" else "tuple_iterator"
theorem isB.ob {b : Bool} {h : Heap} {a : Addr} {its : Array Value} (p : isB b h a its) : ∃ o, h.get? a = some o ∧ o.cls = .type (knB b) := by
  rcases p with ⟨rfl, o, h1, h2, _⟩ | ⟨rfl, o, h1, h2, _⟩
  · exact ⟨o, h1, h2⟩
  · exact ⟨o, h1, h2⟩
theorem itB.ob {b : Bool} {h : Heap} {it a : Addr} {i : Nat} (p : itB b h it a i) : ∃ o vs, h.get? it = some o ∧ o.cls = .type (knI b) ∧ o.data = .fields vs := by
  rcases p with ⟨rfl, o, h1, h2, h3⟩ | ⟨rfl, o, h1, h2, h3⟩
  · exact ⟨o, _, h1, h2, h3⟩
  · exact ⟨o, _, h1, h2, h3⟩
theorem itB.mv {b : Bool} {h h' : Heap} {it a : Addr} {i : Nat} (p : itB b h it a i) (k : ∀ o, h.get? it = some o → h'.get? it = some o) : itB b h' it a i := by
  rcases p with ⟨e, q⟩ | ⟨e, q⟩
  · exact .inl ⟨e, q.at k⟩
  · exact .inr ⟨e, q.at k⟩
theorem isB.mv {b : Bool} {h h' : Heap} {a : Addr} {its : Array Value} (p : isB b h a its) (k : ∀ o, h.get? a = some o → h'.get? a = some o) : isB b h' a its := by
  rcases p with ⟨e, q⟩ | ⟨e, q⟩
  · exact .inl ⟨e, q.at k⟩
  · exact .inr ⟨e, q.at k⟩
theorem apartC {h : Heap} {a c : Addr} {o u : Obj} {s t : String} (h1 : h.get? a = some o) (h2 : h.get? c = some u) (e1 : o.cls = .type s) (e2 : u.cls = .type t) (ne : s ≠ t) : a ≠ c := by
  intro e
  subst e
  rw [h1] at h2
  cases h2
  rw [e1] at e2
  injection e2 with e3
  exact ne e3
theorem apB {b c : Bool} {h : Heap} {it a l : Addr} {i : Nat} {its : Array Value} (p : isB c h a its) (q : itB b h it l i) : a ≠ it := by
  obtain ⟨o, h1, h2⟩ := p.ob
  obtain ⟨u, vs, h3, h4, _⟩ := q.ob
  exact apartC h1 h3 h2 h4 (by cases b <;> cases c <;> decide)
theorem drawsB {prog : Program} {w : World} {A : Around} (hh : A.handled = none) (b : Bool) (it l : Addr) (hne : l ≠ it) (its : Array Value) :
    Draws prog w A it [it, l] its.size (fun i v => its[i]? = some v) (fun i h => itB b h it l i ∧ isB b h l its) := by
  refine ⟨fun i h st => ?_, fun i h h' st k => ⟨st.1.mv (k it (by simp)), st.2.mv (k l (by simp))⟩, fun i s Q E hi st hQ => ?_, fun s Q E st hE => ?_⟩
  · obtain ⟨o, vs, e, _⟩ := st.1.ob
    exact ⟨o, e⟩
  · rcases st.1 with ⟨e1, q⟩ | ⟨e1, q⟩
    · rcases st.2 with ⟨e2, q2⟩ | ⟨e2, q2⟩
      · exact (Draws.list (prog := prog) (w := w) hh it l hne its).item i s Q E hi ⟨q, q2⟩ fun x h' tk hp st' sb => hQ x h' tk hp ⟨.inl ⟨e1, st'.1⟩, .inl ⟨e1, st'.2⟩⟩ sb
      · rw [e1] at e2
        cases e2
    · rcases st.2 with ⟨e2, q2⟩ | ⟨e2, q2⟩
      · rw [e1] at e2
        cases e2
      · exact (Draws.tuple (prog := prog) (w := w) hh it l hne its).item i s Q E hi ⟨q, q2⟩ fun x h' tk hp st' sb => hQ x h' tk hp ⟨.inr ⟨e1, st'.1⟩, .inr ⟨e1, st'.2⟩⟩ sb
  · rcases st.1 with ⟨e1, q⟩ | ⟨e1, q⟩
    · rcases st.2 with ⟨e2, q2⟩ | ⟨e2, q2⟩
      · exact (Draws.list (prog := prog) (w := w) hh it l hne its).done s Q E ⟨q, q2⟩ hE
      · rw [e1] at e2
        cases e2
    · rcases st.2 with ⟨e2, q2⟩ | ⟨e2, q2⟩
      · rw [e1] at e2
        cases e2
      · exact (Draws.tuple (prog := prog) (w := w) hh it l hne its).done s Q E ⟨q, q2⟩ hE
theorem beginsB (b : Bool) (l : Addr) (its : Array Value) : Begins (.ref l) (obB b l) fun h => isB b h l its := by
  refine ⟨fun prog w A E s Q h q => ?_, fun h h' p k => isB.mv p (k l), by cases b <;> rfl⟩
  rcases h with ⟨rfl, h⟩ | ⟨rfl, h⟩
  · exact (begins_list l its).iter prog w A E s Q h q
  · exact (begins_tuple l its).iter prog w A E s Q h q
theorem itB.new {b : Bool} {h : Heap} {it l : Addr} (e : h.get? it = some (obB b l)) : itB b h it l 0 := by
  cases b with
  | true => exact .inl ⟨rfl, _, e, rfl, rfl⟩
  | false => exact .inr ⟨rfl, _, e, rfl, rfl⟩
section
variable {X : Cx} {pins : List (Addr × Obj)} {σ : L2.St} {H : Hp} {s : Shared} {a : Addr} {xs ys : List V} {b : Bool}
theorem inv_sq (I : Inv X pins σ H s) (h : SqB X.K b H a xs) : ∃ its : List Value, Vals xs its ∧ isB b s.heap a its.toArray ∧ xs.length ≤ sizeLine := by
  rcases h with ⟨rfl, h⟩ | ⟨rfl, h⟩
  · obtain ⟨its, r, p, z⟩ := I.list h
    exact ⟨its, r, .inl ⟨rfl, p.isList⟩, z⟩
  · obtain ⟨its, r, p, z⟩ := I.tuple h
    exact ⟨its, r, .inr ⟨rfl, p⟩, z⟩
theorem inv_inj (I : Inv X pins σ H s) (h : SqB X.K b H a xs) (g : SqB X.K b H a ys) : xs = ys := by
  rcases h with ⟨rfl, h⟩ | ⟨rfl, h⟩
  · rcases g with ⟨_, g⟩ | ⟨z, _⟩
    · exact I.list_inj h g
    · cases z
  · rcases g with ⟨z, _⟩ | ⟨_, g⟩
    · cases z
    · exact I.tuple_inj h g
end
/-! ### enumerate -/
def Ien (K : PySem.W.Frag) (b : Bool) (a : Addr) : It :=
  ⟨fun i H => ∃ (xs : List V) (x : V), SqB K b H a xs ∧ xs[i]? = some x,
   fun i H v H' => ∃ T x, v = .ref T ∧ H T = none ∧ H' = upd H T (.tup [.int (i : Nat), x]) ∧ ∀ xs, SqB K b H a xs → xs[i]? = some x,
   fun i H => ∃ xs : List V, SqB K b H a xs ∧ xs.length = i⟩
def enSt (b : Bool) (a e it : Addr) (i : Nat) (h : Heap) : Prop := (∃ old, IsEnum h e it (0 + (i : Int)) old) ∧ itB b h it a i ∧ e ≠ it
theorem turn_en {P : Program} {w : World} {K : PySem.W.Frag} {elts : List Expr} {kk : Nat} {tpos : Pos} (b : Bool) (a e it : Addr) : Turn P w K (.Tuple elts kk tpos) (Ien K b a) [e, it] e (enSt b a e it) where
  mem := List.mem_cons_self
  obj := fun i h st c hc => by
    obtain ⟨⟨old, he⟩, q, _⟩ := st
    obtain ⟨o, vs, ho, _, hd⟩ := q.ob
    rcases List.mem_cons.mp hc with z | z
    · rw [z]
      exact ⟨_, he, fun v q => by cases q⟩
    · rw [List.mem_singleton.mp z]
      exact ⟨o, ho, fun v q => by rw [hd] at q; cases q⟩
  keep := fun i h h' st k => ⟨⟨_, k e List.mem_cons_self _ st.1.choose_spec⟩, st.2.1.mv (k it (by simp)), st.2.2⟩
  item := by
    intro X hP hw hK hc i pins s σ H E I hf st hg
    subst hP hw hK
    obtain ⟨⟨old, he⟩, hit, hne⟩ := st
    obtain ⟨xs, x, hq, hx⟩ := hg
    obtain ⟨its, rv, p, hz⟩ := inv_sq I hq
    obtain ⟨u, hu, ru⟩ := rv.get hx
    have hat := apB p hit
    have hea : e ≠ a := by
      obtain ⟨o, h1, h2⟩ := p.ob
      exact apartC he h1 rfl h2 (by cases b <;> decide)
    have hlt : i < its.toArray.size := by
      rw [List.size_toArray]
      exact (List.getElem?_eq_some_iff.mp hu).1
    have W := GoesN.enumFrom (elts := elts) (x1 := kk) (pos := tpos) 0 (drawsB (prog := X.prog) (w := X.w) (A := X.A.in1) (I.ok.hd hc) b it a hat its.toArray) e hne (by simp [hne, hea]) (by simp)
    refine W.goes i s _ E hlt ⟨⟨old, he⟩, hit, p⟩ fun v h' tk y st' hk htk => ?_
    obtain ⟨T, t, x2, ev, hT, hx2, hq2⟩ := y
    subst ev
    have ex : x2 = u := by
      have : its.toArray[i]? = some u := by simpa using hu
      rw [this] at hx2
      exact (Option.some.inj hx2).symm
    subst ex
    rw [Int.zero_add] at hq2
    have new : ObjOk X.prog X.w (upd H T (.tup [.int (i : Nat), x])) h' T (.tup [.int (i : Nat), x]) := ⟨by show 2 ≤ sizeLine; decide, [.int i t, x2], .cons ⟨_, rfl⟩ (.cons ru .nil), hq2⟩
    have I1 : Inv X pins σ (upd H T (.tup [.int (i : Nat), x])) { s with heap := h', toks := tk } := I.turnedNew (ch := [e, it]) hk hf hT new
    refine ⟨.ref T, _, I1, rfl, ⟨T, x, rfl, I.hok.fresh hT, rfl, fun zs hz => by rw [inv_inj I hz hq]; exact hx⟩, ⟨st'.1, st'.2.1, hne⟩, fun c hc => ?_⟩
    have hb : c < s.heap.objs.size := by
      rcases List.mem_cons.mp hc with z | z
      · rw [z]; exact Heap.lt_size he
      · rw [List.mem_singleton.mp z]
        obtain ⟨o, vs, ho, _⟩ := hit.ob
        exact Heap.lt_size ho
    rw [upd_ne (Nat.ne_of_lt (Nat.lt_of_lt_of_le hb hT))]
    exact (hf c hc).1
  done := by
    intro X hP hw hK hc i pins s σ H E I hf st hg
    subst hP hw hK
    obtain ⟨⟨old, he⟩, hit, hne⟩ := st
    obtain ⟨xs, hq, hx⟩ := hg
    obtain ⟨its, rv, p, hz⟩ := inv_sq I hq
    have hat := apB p hit
    have hea : e ≠ a := by
      obtain ⟨o, h1, h2⟩ := p.ob
      exact apartC he h1 rfl h2 (by cases b <;> decide)
    have W := GoesN.enumFrom (elts := elts) (x1 := kk) (pos := tpos) 0 (drawsB (prog := X.prog) (w := X.w) (A := X.A.in1) (I.ok.hd hc) b it a hat its.toArray) e hne (by simp [hne, hea]) (by simp)
    have hn : its.toArray.size = i := by rw [List.size_toArray, ← rv.length, hx]
    refine W.stops s (fun s1 => Inv X pins σ H s1) E (by rw [hn]; exact ⟨⟨old, he⟩, hit, p⟩) fun h' tk hk htk => ?_
    exact I.turnedL (ch := [e, it]) hk hf
  self := fun A i s Q E st h => by
    obtain ⟨⟨old, he⟩, _⟩ := st
    exact wpAny_pyIter_enum he h
theorem meets_enT (l : Addr) (its : Array Value) (n : Nat) (dct : Option Addr) (sl : Array (Option Value)) :
    Meets (Builtin.«enumerate.__new__» ⟨[.type "enumerate", .ref l], []⟩) (fun _ R s => s.heap.get? l = some { cls := .type "tuple", dict := dct, data := .seq its n, slots := sl } ∧
      R (.ok (.ret (.ref (s.heap.push (obB false l)).objs.size))) { s with heap := (s.heap.push (obB false l)).push { cls := .type "enumerate", data := .fields #[.none, .bool false, .ref s.heap.objs.size, rawInt 0, .none, .none] } }) :=
  .of_wp fun prog w A R s h => by
    obtain ⟨hp, g, d, tk, os⟩ := s
    obtain ⟨hl, h⟩ := h
    have hsub := sub_enumerate
    have hT : Heap.IsTuple (Shared.heap ⟨hp, g, d, tk, os⟩) l its := ⟨_, hl, rfl, n, rfl⟩
    wp_walk using wpAny_loadPart' hl
    refine wpAny_stack_any fun st => wpAny_pure ?_
    split
    · rename_i c _ _ _ _ _
      cases (c == Value.type "enumerate")
      · wp_walk using wpAny_loadPart' hl, wpAny_pyIter_tuple hT
        exact ⟨_, rfl, h⟩
      · wp_walk using wpAny_loadPart' hl, wpAny_pyIter_tuple hT
        exact ⟨_, rfl, h⟩
    · wp_walk using wpAny_loadPart' hl, wpAny_pyIter_tuple hT
      exact ⟨_, rfl, h⟩
theorem call_en {prog : Program} {w : World} {A : Around} {E : Value → Shared → Prop} {s : Shared} {b : Bool} {l : Addr} {its : Array Value} {Q : Value → Shared → Prop} (p : isB b s.heap l its)
    (h : ∀ h', IsEnum h' (s.heap.objs.size + 1) s.heap.objs.size 0 .none → itB b h' s.heap.objs.size l 0 → (∀ c o, s.heap.get? c = some o → h'.get? c = some o) → Q (.ref (s.heap.objs.size + 1)) { s with heap := h' }) :
    wpAny (model prog w) A (call (.type "enumerate") [.ref l]) Q E s := by
  rcases p with ⟨rfl, p⟩ | ⟨rfl, p⟩
  · exact call_enumerate_list p fun h' a1 a2 _ a3 => h h' a1 (.inl ⟨rfl, a2⟩) a3
  · obtain ⟨⟨c, dct, dt, sl⟩, hl, hc, n, hd⟩ := p
    have hc' : c = .type "tuple" := hc
    have hd' : dt = .seq its n := hd
    subst hc' hd'
    refine callType_new F.called_enumerate (by decide) (F.typeCall_enumerate_1 _) (F.newCall_enumerate_1 _) (fun obj => F.args_object_init_2 obj _) F.entry_enumerate_new (meets_enT l its n dct sl) ⟨hl, ?_⟩
    have hz : (s.heap.push (obB false l)).objs.size = s.heap.objs.size + 1 := Heap.size_push ..
    show _ ∧ _
    rw [hz]
    have he : IsEnum ((s.heap.push (obB false l)).push { cls := .type "enumerate", data := .fields #[.none, .bool false, .ref s.heap.objs.size, rawInt 0, .none, .none] }) (s.heap.objs.size + 1) s.heap.objs.size 0 .none := by
      have q := Heap.get?_push_size (s.heap.push (obB false l)) (o := { cls := .type "enumerate", data := .fields #[.none, .bool false, .ref s.heap.objs.size, rawInt 0, .none, .none] }) rfl
      rw [hz] at q
      exact q
    exact ⟨⟨_, he, rfl⟩, h _ he (itB.new (Heap.get?_push_of_some _ (Heap.get?_push_size _ rfl))) fun c o x => Heap.get?_push_of_some _ (Heap.get?_push_of_some _ x)⟩
def iEn (K : PySem.W.Frag) (ta : TA) : TI := fun σ H R => ta σ H fun vs H1 => ∃ b a xs, vs = [.ref a] ∧ SqB K b H1 a xs ∧ R (Ien K b a) H1
theorem pi_en {X : Cx} {e : Expr} {ta : TA} {p pos tpos : Pos} {elts : List Expr} {kk : Nat} (hg : Gl X "enumerate") (hm : X.mg "enumerate" = none) (ha : PA X [e] ta) (hs : starEach [e] X.env = [(false, eval e X.env)]) :
    PI X (.Tuple elts kk tpos) (.Call (.Name "enumerate" p) [e] [] pos) (iEn X.K ta) := by
  refine ⟨fun pins s σ H R I h => ?_⟩
  refine Call_ (ld_blt I hg hm boot_enumerate (PyProof.Rows.callWith_type1 (thn (ha.run pos pins s σ H _ I h) fun us s1 w1 => ?_) hs rfl))
  obtain ⟨vs, H1, I1, r1, b, a, xs, ex, hq, q⟩ := w1
  subst ex
  cases r1 with
  | cons r rr =>
    cases rr
    cases r
    obtain ⟨its, rv, p', hz⟩ := inv_sq I1 hq
    refine call_en p' fun h' he hit hk => wpAny_pyIter_enum he ?_
    have I2 : Inv X pins σ H1 { s1 with heap := h' } := I1.kept (t' := s1.toks) hk
    refine ⟨s1.heap.objs.size + 1, [s1.heap.objs.size + 1, s1.heap.objs.size], _, _, H1, rfl, I2, turn_en b a (s1.heap.objs.size + 1) s1.heap.objs.size, ⟨⟨.none, he⟩, hit, Nat.succ_ne_self _⟩, fun c hc => ?_, q⟩
    have hle : s1.heap.objs.size ≤ c := by
      rcases List.mem_cons.mp hc with z | z
      · rw [z]; exact Nat.le_add_right _ _
      · rw [List.mem_singleton.mp z]; exact Nat.le_refl _
    exact I1.fpOk hle (I1.hok.fresh hle)
/-! ### zip -/
def Izp (K : PySem.W.Frag) (b c : Bool) (a d : Addr) : It :=
  ⟨fun i H => ∃ (xs ys : List V) (x y : V), SqB K b H a xs ∧ SqB K c H d ys ∧ xs[i]? = some x ∧ ys[i]? = some y,
   fun i H v H' => ∃ T x y, v = .ref T ∧ H T = none ∧ H' = upd H T (.tup [x, y]) ∧ (∀ xs, SqB K b H a xs → xs[i]? = some x) ∧ (∀ ys, SqB K c H d ys → ys[i]? = some y),
   fun i H => ∃ xs ys : List V, SqB K b H a xs ∧ SqB K c H d ys ∧ min xs.length ys.length = i⟩
def zpSt (b c : Bool) (a d z TI TO i1 i2 : Addr) (i : Nat) (h : Heap) : Prop := IsZip h z TI TO .none ∧ IsTupOf2 h TI (.ref i1) (.ref i2) ∧ (∃ a1 a2, IsTupOf2 h TO a1 a2) ∧ itB b h i1 a i ∧ itB c h i2 d i
theorem zpSt.here {b c : Bool} {a d z TI TO i1 i2 : Addr} {i : Nat} {h : Heap} (st : zpSt b c a d z TI TO i1 i2 i h) : ∀ x ∈ [z, TI, TO, i1, i2], ∃ o, h.get? x = some o ∧ ∀ v, o.data ≠ .cell v := by
  obtain ⟨hz, hTI, ⟨a1, a2, hTO⟩, h1, h2⟩ := st
  intro x hx
  simp only [List.mem_cons, List.not_mem_nil, or_false] at hx
  rcases hx with rfl | rfl | rfl | rfl | rfl
  · exact ⟨_, hz, fun v q => by cases q⟩
  · exact ⟨_, hTI, fun v q => by cases q⟩
  · exact ⟨_, hTO, fun v q => by cases q⟩
  · obtain ⟨o, vs, e, _, e2⟩ := h1.ob
    exact ⟨o, e, fun v q => by rw [e2] at q; cases q⟩
  · obtain ⟨o, vs, e, _, e2⟩ := h2.ob
    exact ⟨o, e, fun v q => by rw [e2] at q; cases q⟩
theorem turn_zp {P : Program} {w : World} {K : PySem.W.Frag} {elts : List Expr} {kk : Nat} {tpos : Pos} {b c : Bool} {a d z TI TO i1 i2 : Addr} (S : ZipSep2 z TI TO i1 i2 [i1, a] [i2, d]) :
    Turn P w K (.Tuple elts kk tpos) (Izp K b c a d) [z, TI, TO, i1, i2] z (zpSt b c a d z TI TO i1 i2) where
  mem := List.mem_cons_self
  obj := fun i h st => st.here
  keep := fun i h h' st k => ⟨k z (by simp) _ st.1, k TI (by simp) _ st.2.1, ⟨_, _, k TO (by simp) _ st.2.2.1.choose_spec.choose_spec⟩, st.2.2.2.1.mv (k i1 (by simp)), st.2.2.2.2.mv (k i2 (by simp))⟩
  item := by
    intro X hP hw hK hc i pins s σ H E I hf st hg
    subst hP hw hK
    obtain ⟨xs, ys, x, y, hqx, hqy, hx, hy⟩ := hg
    obtain ⟨its, rv, p, _⟩ := inv_sq I hqx
    obtain ⟨it2, rv2, p2, _⟩ := inv_sq I hqy
    obtain ⟨u, hu, ru⟩ := rv.get hx
    obtain ⟨u2, hu2, ru2⟩ := rv2.get hy
    have W := GoesN.zip2 (elts := elts) (x1 := kk) (pos := tpos) S (drawsB (prog := X.prog) (w := X.w) (A := X.A.in1) (I.ok.hd hc) b i1 a (apB p st.2.2.2.1) its.toArray) (drawsB (prog := X.prog) (w := X.w) (A := X.A.in1) (I.ok.hd hc) c i2 d (apB p2 st.2.2.2.2) it2.toArray)
    have hlt : i < min its.toArray.size it2.toArray.size := by
      have l1 := (List.getElem?_eq_some_iff.mp hu).1
      have l2 := (List.getElem?_eq_some_iff.mp hu2).1
      rw [List.size_toArray, List.size_toArray]
      omega
    have hh := st.here
    refine W.goes i s _ E hlt ⟨st.1, st.2.1, st.2.2.1, ⟨st.2.2.2.1, p⟩, ⟨st.2.2.2.2, p2⟩⟩ fun v h' tk yy st' hk htk => ?_
    obtain ⟨T, x2, y2, ev, hT, hx2, hy2, hq2⟩ := yy
    subst ev
    have ex : x2 = u := by
      have q : its.toArray[i]? = some u := by simpa using hu
      rw [q] at hx2
      exact (Option.some.inj hx2).symm
    have ey : y2 = u2 := by
      have q : it2.toArray[i]? = some u2 := by simpa using hu2
      rw [q] at hy2
      exact (Option.some.inj hy2).symm
    subst ex ey
    have new : ObjOk X.prog X.w (upd H T (.tup [x, y])) h' T (.tup [x, y]) := ⟨by show 2 ≤ sizeLine; decide, [x2, y2], .cons ru (.cons ru2 .nil), hq2⟩
    have hf2 : ∀ q ∈ [z, TO, i1, i2], FpOk X pins H q := fun q hq => hf q (by
      simp only [List.mem_cons, List.not_mem_nil, or_false] at hq ⊢
      rcases hq with h | h | h | h <;> simp [h])
    have I1 : Inv X pins σ (upd H T (.tup [x, y])) { s with heap := h', toks := tk } := I.turnedNew (ch := [z, TO, i1, i2]) hk hf2 hT new
    refine ⟨.ref T, _, I1, rfl, ⟨T, x, y, rfl, I.hok.fresh hT, rfl, fun zs hz => by rw [inv_inj I hz hqx]; exact hx, fun zs hz => by rw [inv_inj I hz hqy]; exact hy⟩, ⟨st'.1, st'.2.1, st'.2.2.1, st'.2.2.2.1.1, st'.2.2.2.2.1⟩, fun q hq => ?_⟩
    obtain ⟨o, ho, _⟩ := hh q hq
    rw [upd_ne (Nat.ne_of_lt (Nat.lt_of_lt_of_le (Heap.lt_size ho) hT))]
    exact (hf q hq).1
  done := by
    intro X hP hw hK hc i pins s σ H E I hf st hg
    subst hP hw hK
    obtain ⟨xs, ys, hqx, hqy, hn⟩ := hg
    obtain ⟨its, rv, p, _⟩ := inv_sq I hqx
    obtain ⟨it2, rv2, p2, _⟩ := inv_sq I hqy
    have W := GoesN.zip2 (elts := elts) (x1 := kk) (pos := tpos) S (drawsB (prog := X.prog) (w := X.w) (A := X.A.in1) (I.ok.hd hc) b i1 a (apB p st.2.2.2.1) its.toArray) (drawsB (prog := X.prog) (w := X.w) (A := X.A.in1) (I.ok.hd hc) c i2 d (apB p2 st.2.2.2.2) it2.toArray)
    have en : min its.toArray.size it2.toArray.size = i := by rw [List.size_toArray, List.size_toArray, ← rv.length, ← rv2.length]; exact hn
    refine W.stops s (fun s1 => Inv X pins σ H s1) E (by rw [en]; exact ⟨st.1, st.2.1, st.2.2.1, ⟨st.2.2.2.1, p⟩, ⟨st.2.2.2.2, p2⟩⟩) fun h' tk hk htk => ?_
    exact I.turnedL (ch := [z, TO, i1, i2]) hk fun q hq => hf q (by
      simp only [List.mem_cons, List.not_mem_nil, or_false] at hq ⊢
      rcases hq with h | h | h | h <;> simp [h])
  self := fun A i s Q E st h => wpAny_pyIter_zip st.1 h
def iZp (K : PySem.W.Frag) (ta : TA) : TI := fun σ H R => ta σ H fun vs H1 => ∃ b c a d xs ys, vs = [.ref a, .ref d] ∧ SqB K b H1 a xs ∧ SqB K c H1 d ys ∧ R (Izp K b c a d) H1
theorem pi_zp {X : Cx} {e f : Expr} {ta : TA} {p pos tpos : Pos} {elts : List Expr} {kk : Nat} (hg : Gl X "zip") (hm : X.mg "zip" = none) (ha : PA X [e, f] ta)
    (hs : starEach [e, f] X.env = (false, eval e X.env) :: starEach [f] X.env) (hpl : (backTo pos (starEach [f] X.env)).any (·.1) = false) : PI X (.Tuple elts kk tpos) (.Call (.Name "zip" p) [e, f] [] pos) (iZp X.K ta) := by
  refine ⟨fun pins s σ H R I h => ?_⟩
  refine Call_ (ld_blt I hg hm PyProof.Rows.boot_zip (PyProof.Rows.callWith_type1 (thn (ha.run pos pins s σ H _ I h) fun us s1 w1 => ?_) hs hpl))
  obtain ⟨vs, H1, I1, r1, b, c, a, d, xs, ys, ex, hqx, hqy, q⟩ := w1
  subst ex
  cases r1 with
  | cons r rr =>
    cases rr with
    | cons r' rr =>
      cases rr
      cases r
      cases r'
      obtain ⟨its, rv, p1, _⟩ := inv_sq I1 hqx
      obtain ⟨it2, rv2, p2, _⟩ := inv_sq I1 hqy
      have la : a < s1.heap.objs.size := by
        obtain ⟨o, e, _⟩ := p1.ob
        exact Heap.lt_size e
      have ld : d < s1.heap.objs.size := by
        obtain ⟨o, e, _⟩ := p2.ob
        exact Heap.lt_size e
      refine zip_begins2 (beginsB b a its.toArray) (beginsB c d it2.toArray) p1 p2 fun h' hz hTI hTO h1 h2 hsz hk => wpAny_pyIter_zip hz ?_
      have I2 : Inv X pins σ H1 { s1 with heap := h' } := I1.kept (t' := s1.toks) hk
      have S := zip_sep2 (N := s1.heap.objs.size) (fp1 := [a]) (fp2 := [d]) (fun q hq => by rw [List.mem_singleton.mp hq]; exact la) (fun q hq => by rw [List.mem_singleton.mp hq]; exact ld)
      refine ⟨_, [s1.heap.objs.size + 4, s1.heap.objs.size + 2, s1.heap.objs.size + 3, s1.heap.objs.size, s1.heap.objs.size + 1], _, _, H1, rfl, I2, turn_zp S, ⟨hz, hTI, ⟨_, _, hTO⟩, itB.new h1, itB.new h2⟩, fun c hc => ?_, q⟩
      have hle : s1.heap.objs.size ≤ c := by
        simp only [List.mem_cons, List.not_mem_nil, or_false] at hc
        rcases hc with h | h | h | h | h <;> rw [h] <;> first | exact Nat.le_add_right _ _ | exact Nat.le_refl _
      exact I1.fpOk hle (I1.hok.fresh hle)
end Ip

set_option Elab.async false
set_option linter.all false
set_option maxRecDepth 100000
set_option maxHeartbeats 4000000
namespace Ip
open PySem L2
section
variable {Γ : Gam} {e a b c : Expr} {es rest : List Expr} {ia ib ic i : IE} {ies : IEs} {pos p0 : Pos} {x : Str}
/-! ### calls of own defs -/
theorem tx_call {K : PySem.W.Frag} {cl : Cl} {σ : L2.St} {H : Hp} {Q : VK} (q : Tx K cl p (.call x ies) σ H Q) : tCall (spF K cl x) [] E0 (Tg K cl p ies) σ H Q := by
  obtain ⟨st, B, M, F, env, d, st', r, he, k⟩ := q
  unfold ev at he
  cases e1 : ag cl ies env st with
  | none =>
    rw [e1] at he
    cases he
  | some ys =>
    obtain ⟨ys, st1⟩ := ys
    rw [e1] at he
    refine ⟨st, B, M, F, env, ys, st1, r, e1, fun vs B1 H1 x1 r1 p1 => ?_⟩
    show spF K cl x (vs ++ []) H1 Q E0
    rw [List.append_nil]
    exact ⟨p.o, st1, B1, uni M F, ys, d, st', ⟨rfl, rfl, rfl⟩, r1.call.o, p1.o, he, fun v B' H' x2 w pv => k v B' H' (x1.trans x2) (r1.back x2 w.u) pv⟩
theorem call_se (h : SG Γ (e :: es) ies) (hh : Γ.hot = false := by rfl) (hf : Γ.fs.contains x = true := by rfl) (hg : GlS Γ.sc x := by rfl) (hdb : (x == ("__debug__" : Str)) = false := by decide)
    (he : ∀ env, starEach (e :: es) env = (false, eval e env) :: starEach es env := by intro _; rfl) (hpl : ∀ env, (backTo pos (starEach es env)).any (·.1) = false := by intro _; rfl) :
    SE Γ (.Call (.Name x p0) (e :: es) [] pos) (.call x ies) := fun X p o => by
  obtain ⟨fa, fd, ps, k, F, hm, hk, hb, hr⟩ := o.fn hh x (List.contains_iff_mem.mp hf)
  exact PE_weak (pe_call F hr (o.gl hg) hm hk hb .nil passN (h X p o) hdb (he _) (hpl _)) fun σ H Q q => tx_call q
theorem call0_se (hh : Γ.hot = false := by rfl) (hf : Γ.fs.contains x = true := by rfl) (hg : GlS Γ.sc x := by rfl) (hdb : (x == ("__debug__" : Str)) = false := by decide) : SE Γ (.Call (.Name x p0) [] [] pos) (.call x .nil) := fun X p o => by
  obtain ⟨fa, fd, ps, k, F, hm, hk, hb, hr⟩ := o.fn hh x (List.contains_iff_mem.mp hf)
  refine PE_weak (pe_call0 F hr (o.gl hg) hm hk hb .nil passN hdb) fun σ H Q q => ?_
  obtain ⟨st, B, M, F, env, ds, st', r, he, k⟩ := tx_call q
  unfold ag at he
  cases he
  exact k [] B H (Ex.refl B) r .nil
/-- a call without arguments within an except suite -/
theorem callH0_se (hh : Γ.hot = true := by rfl) (hf : Γ.hs.contains x = true := by rfl) (hg : GlS Γ.sc x := by rfl) (hdb : (x == ("__debug__" : Str)) = false := by decide) : SE Γ (.Call (.Name x p0) [] [] pos) (.call (hotN x) .nil) := fun X p o => ⟨fun pins s σ H Q I q => by
  obtain ⟨fa, fd, ps, k, F, hm, hk, hb, hr⟩ := o.fnh x (List.contains_iff_mem.mp hf)
  refine wpAny_Call_Name_kw (ld_glob I (o.gl hg) hm ?_ hdb)
  refine PySem.W.callWith_K0 (first := []) I.kIn hk ?_
  refine L2H.run_fnH (E := fun _ => E0) F hr (o.hotc hh) hb (fun pins H s e s' I c => passN pins σ H s e s' I c) I .nil ?_
  obtain ⟨st, B, M, F', env, ds, st', r, he, kk⟩ := tx_call q
  unfold ag at he
  cases he
  have z : spF Γ.K Γ.cl (hotN x) ([] ++ []) H Q E0 := kk [] B H (Ex.refl B) r .nil
  exact z⟩
/-- a call within an except suite -/
theorem callH_se (h : SG Γ (e :: es) ies) (hh : Γ.hot = true := by rfl) (hf : Γ.hs.contains x = true := by rfl) (hg : GlS Γ.sc x := by rfl) (hdb : (x == ("__debug__" : Str)) = false := by decide)
    (he : ∀ env, starEach (e :: es) env = (false, eval e env) :: starEach es env := by intro _; rfl) (hpl : ∀ env, (backTo pos (starEach es env)).any (·.1) = false := by intro _; rfl) :
    SE Γ (.Call (.Name x p0) (e :: es) [] pos) (.call (hotN x) ies) := fun X p o => by
  obtain ⟨fa, fd, ps, k, F, hm, hk, hb, hr⟩ := o.fnh x (List.contains_iff_mem.mp hf)
  refine PE_weak (L2H.pe_callH F hr (o.hotc hh) (o.gl hg) hm hk hb (E := fun _ => E0) (fun σ pins H s e s' I c => passN pins σ H s e s' I c) (h X p o) hdb (he _) (hpl _)) fun σ H Q q => ?_
  obtain ⟨st, B, M, F', env, ys, st1, r, e1, kk⟩ := tx_call q
  refine ⟨st, B, M, F', env, ys, st1, r, e1, fun vs B' H' x1 r1 p1 => ?_⟩
  have z : spF Γ.K Γ.cl (hotN x) (vs ++ []) H' Q E0 := kk vs B' H' x1 r1 p1
  rw [List.append_nil] at z
  exact z
theorem CallR_or {X : Cx} {f : Value} {r1 r2 : List V → Hp → VK → Prop} (h1 : CallR X f r1) (h2 : CallR X f r2) : CallR X f (fun vs H Q => r1 vs H Q ∨ r2 vs H Q) := fun pins s σ H vs us Q I r q => by
  rcases q with q | q
  · exact h1 pins s σ H vs us Q I r q
  · exact h2 pins s σ H vs us Q I r q
/-! ### built-ins of one argument -/
theorem tx_bi {K : PySem.W.Frag} {cl : Cl} {f : Bi} {r : List V → Hp → VK → Prop} {σ : L2.St} {H : Hp} {Q : VK}
    (hr : ∀ {st B M F env v d z H}, Rel K p st B M F env σ H → Rp K B v d → biD f [d] = some z → ∀ Q : VK, (∀ w B' H', Ex B B' → Rel K p st B' M F env σ H' → Rp K B' w z → Q w H') → r [v] H Q)
    (q : Tx K cl p (.bi f (.cons i .nil)) σ H Q) : tCB r (Ta K cl p (.cons i .nil)) σ H Q := by
  obtain ⟨st, B, M, F, env, d, st', rl, he, k⟩ := q
  unfold ev at he
  cases e1 : ea cl (.cons i .nil) env st with
  | none =>
    rw [e1] at he
    cases he
  | some ys =>
    obtain ⟨ys, st1⟩ := ys
    rw [e1] at he
    obtain ⟨z, e2, e3⟩ := Option.map_eq_some_iff.mp he
    cases e3
    refine ⟨st, B, M, F, env, ys, _, rl, e1, fun vs B1 H1 x1 r1 p1 => ?_⟩
    have hl : ys.length = 1 := by
      unfold ea at e1
      split at e1
      · unfold ea at e1
        cases e1
        rfl
      · cases e1
    match ys, hl, p1, e2 with
    | [y], _, .cons py .nil, e2 => exact hr r1 py e2 Q fun w B' H' x2 r2 p2 => k w B' H' (x1.trans x2) r2 p2
theorem len_se (h : SE Γ e i) (hb : Γ.bs.contains "len" = true := by rfl) (hg : GlS Γ.sc "len" := by rfl) (hs : ∀ env, starEach [e] env = (false, eval e env) :: starEach [] env := by intro _; rfl) :
    SE Γ (.Call (.Name "len" p0) [e] [] pos) (.bi .len (.cons i .nil)) := fun X p o =>
  PE_weak (pe_callB call_len (o.gl hg) (o.bl _ (List.contains_iff_mem.mp hb)) PySem.boot_len ((sa_cons h sa_nil hs) X p o) (by decide) (by decide) (hs _) rfl) fun σ H Q q => by
    refine tx_bi ?_ q
    intro st B M F env v d z H r pv e2 Q k
    rw [o.K]
    cases pv with
    | @lst a xs ds hx rx =>
      cases e2
      exact ⟨_, xs.length, rfl, .inl ⟨xs, Or.inl (Or.inl (r.bs.b _ _ hx)), rfl⟩, k _ B H (Ex.refl B) r (by rw [rx.length]; exact .int _)⟩
    | @tup a xs ds hx rx =>
      cases e2
      exact ⟨_, xs.length, rfl, .inr ⟨xs, sqt_mono r.bs.b hx, rfl⟩, k _ B H (Ex.refl B) r (by rw [rx.length]; exact .int _)⟩
    | str s =>
      obtain ⟨hl, rfl⟩ := ite_some (show (if s.length ≤ most then some (PyData.int s.length) else none) = some z from e2)
      exact ⟨_, s.length, rfl, ⟨most_line hl, rfl⟩, k _ B H (Ex.refl B) r (.int _)⟩
    | _ => cases e2
theorem int_se (h : SE Γ e i) (hb : Γ.bs.contains "int" = true := by rfl) (hg : GlS Γ.sc "int" := by rfl) (hs : ∀ env, starEach [e] env = (false, eval e env) :: starEach [] env := by intro _; rfl) :
    SE Γ (.Call (.Name "int" p0) [e] [] pos) (.bi .int (.cons i .nil)) := fun X p o =>
  PE_weak (pe_callTy (CallR_or call_int1 call_int_str) (o.gl hg) (o.bl _ (List.contains_iff_mem.mp hb)) (by decide +kernel) ((sa_cons h sa_nil hs) X p o) (by decide) (by decide) (hs _) rfl) fun σ H Q q => by
    refine tx_bi ?_ q
    intro st B M F env v d z H r pv e2 Q k
    cases pv with
    | int n =>
      cases e2
      exact .inl (.inl ⟨n, rfl, k _ B H (Ex.refl B) r (.int _)⟩)
    | bl w =>
      cases e2
      exact .inl (.inr ⟨w, rfl, k _ B H (Ex.refl B) r (.int _)⟩)
    | str z =>
      have e3 : (match PySem.intText? z with
        | some n => if z.length ≤ 640 then some (PyData.int n) else none
        | none => none) = some _ := e2
      split at e3
      · rename_i n hn
        obtain ⟨hl, rfl⟩ := ite_some e3
        exact .inr ⟨z, n, rfl, hn, hl, k _ B H (Ex.refl B) r (.int _)⟩
      · cases e3
    | _ => cases e2
theorem str_se (h : SE Γ e i) (hb : Γ.bs.contains "str" = true := by rfl) (hg : GlS Γ.sc "str" := by rfl) (hs : ∀ env, starEach [e] env = (false, eval e env) :: starEach [] env := by intro _; rfl) :
    SE Γ (.Call (.Name "str" p0) [e] [] pos) (.bi .str (.cons i .nil)) := fun X p o =>
  PE_weak (pe_callTy call_str_int (o.gl hg) (o.bl _ (List.contains_iff_mem.mp hb)) (by decide +kernel) ((sa_cons h sa_nil hs) X p o) (by decide) (by decide) (hs _) rfl) fun σ H Q q => by
    refine tx_bi ?_ q
    intro st B M F env v d z H r pv e2 Q k
    cases pv with
    | int n =>
      obtain ⟨hl, rfl⟩ := ite_some (show (if n.natAbs.log2 < 1920 then some (PyData.str (toString n)) else none) = some z from e2)
      exact ⟨n, rfl, hl, k _ B H (Ex.refl B) r (.str _)⟩
    | _ => cases e2
theorem tuple_se (h : SE Γ e i) (hb : Γ.bs.contains "tuple" = true := by rfl) (hg : GlS Γ.sc "tuple" := by rfl) (hs : ∀ env, starEach [e] env = (false, eval e env) :: starEach [] env := by intro _; rfl) :
    SE Γ (.Call (.Name "tuple" p0) [e] [] pos) (.bi .tuple (.cons i .nil)) := fun X p o =>
  PE_weak (pe_callTy call_tuple_of (o.gl hg) (o.bl _ (List.contains_iff_mem.mp hb)) (by decide +kernel) ((sa_cons h sa_nil hs) X p o) (by decide) (by decide) (hs _) rfl) fun σ H Q q => by
    refine tx_bi ?_ q
    intro st B M F env v d z H r pv e2 Q k
    rw [o.K]
    cases pv with
    | @lst a xs ds hx rx =>
      cases e2
      exact ⟨a, xs, rfl, .inl ⟨Or.inl (Or.inl (r.bs.b _ _ hx)), fun l hl => k (.ref l) _ _ (Ex.new (r.bs.b.free hl)) (r.new hl) (.tup (Or.inl (Or.inl upd_same)) (rx.mono (Ex.new (r.bs.b.free hl))))⟩⟩
    | @tup a xs ds hx rx =>
      cases e2
      exact ⟨a, xs, rfl, .inr ⟨sqt_mono r.bs.b hx, k _ B H (Ex.refl B) r (.tup hx rx)⟩⟩
    | _ => cases e2
theorem len_rd {K : PySem.W.Frag} {p : Pa} {st : Pl} {B M F : Hp} {env : List Sl} {σ : L2.St} {H : Hp} {v : V} {d z : D} (r : Rel K p st B M F env σ H) (pv : Rp K B v d) (e2 : biD .len [d] = some z) : ∃ n : Nat, LenV K v H n ∧ z = .int n := by
  cases pv with
  | @lst a xs ds hx rx =>
    cases e2
    exact ⟨xs.length, .inl ⟨xs, Or.inl (Or.inl (r.bs.b _ _ hx)), rfl⟩, by rw [rx.length]⟩
  | @tup a xs ds hx rx =>
    cases e2
    exact ⟨xs.length, .inr ⟨xs, sqt_mono r.bs.b hx, rfl⟩, by rw [rx.length]⟩
  | str s =>
    obtain ⟨hl, rfl⟩ := ite_some (show (if s.length ≤ most then some (PyData.int s.length) else none) = some z from e2)
    exact ⟨s.length, ⟨most_line hl, rfl⟩, rfl⟩
  | _ => cases e2
theorem olen_se (n : Nat) {y : Str} {p1 : Pos} (hN : Γ.N[n]? = some y := by rfl) (hv : Vis Γ.sc y := by first | exact Or.inl rfl | exact Or.inr (Or.inl rfl) | exact Or.inr (Or.inr rfl)) (hd : (y == ("__debug__" : Str)) = false := by decide) (hcd : (y == ("__classdict__" : Str)) = false := by decide)
    (hb : Γ.bs.contains "len" = true := by rfl) (hg : GlS Γ.sc "len" := by rfl) (hs : ∀ env, starEach [.Name y p0] env = (false, eval (.Name y p0) env) :: starEach [] env := by intro _; rfl) :
    SE Γ (.Call (.Name "len" p1) [.Name y p0] [] pos) (.olen n) := fun X p o =>
  PE_weak (pe_callB call_len (o.gl hg) (o.bl _ (List.contains_iff_mem.mp hb)) PySem.boot_len (pa_cons (pe_var (i := n) (by rw [o.N]; exact hN) (by rw [o.sc]; exact hv) hd hcd) pa_nil (hs _)) (by decide) (by decide) (hs _) rfl) fun σ H Q q => by
    obtain ⟨st, B, M, F, env, d, st', r, he, k⟩ := q
    unfold ev at he
    split at he
    · rename_i ds e1
      cases he
      obtain ⟨ov, h1, h2⟩ := r.en.at_ n _ e1
      cases ov with
      | none => exact h2.elim
      | some v =>
        cases v with
        | ref a =>
          obtain ⟨xs, h3, h4⟩ := h2
          exact ⟨_, h1, _, xs.length, rfl, .inl ⟨xs, Or.inl (Or.inl (r.m _ _ h3)), rfl⟩, k _ B H (Ex.refl B) r (by rw [h4.length]; exact .int _)⟩
        | _ => exact h2.elim
    · rename_i d1 e1
      obtain ⟨z, e2, e3⟩ := Option.map_eq_some_iff.mp he
      cases e3
      obtain ⟨ov, h1, h2⟩ := r.en.at_ n _ e1
      cases ov with
      | none => exact h2.elim
      | some v =>
        obtain ⟨m, h3, rfl⟩ := len_rd r h2 e2
        rw [o.K]
        exact ⟨v, h1, v, m, rfl, h3, k _ B H (Ex.refl B) r (.int _)⟩
    · cases he
end
/-! ### what is walked -/
theorem PI_or {X : Cx} {tg iter : Expr} {w1 w2 : TI} (h1 : PI X tg iter w1) (h2 : PI X tg iter w2) : PI X tg iter (fun σ H R => w1 σ H R ∨ w2 σ H R) := ⟨fun pins s σ H R I q => by
  rcases q with q | q
  · exact h1.run pins s σ H R I q
  · exact h2.run pins s σ H R I q⟩
def Ti (K : PySem.W.Frag) (cl : Cl) (p : Pa) : IT → TI
  | .seq e => fun σ H R => (iList K (Tx K cl p e) σ H R ∨ iTup K (Tx K cl p e) σ H R) ∨ iStr (Tx K cl p e) σ H R
  | .rng1 e => iRng1 (Ta K cl p (.cons e .nil))
  | .rng2 a b => iRng2 (Ta K cl p (.cons a (.cons b .nil)))
  | .rng3 a b => iRng3 (Ta K cl p (.cons a (.cons b (.cons (.cst (.int (-1))) .nil))))
  | .enm e => iEn K (Ta K cl p (.cons e .nil))
  | .zp a b => iZp K (Ta K cl p (.cons a (.cons b .nil)))
def SI (Γ : Gam) (e : Expr) (i : IT) : Prop := ∀ X p tg, Okx Γ X p → PI X tg e (Ti Γ.K Γ.cl p i)
/-- the same, for one target -/
def SIg (Γ : Gam) (tg e : Expr) (i : IT) : Prop := ∀ X p, Okx Γ X p → PI X tg e (Ti Γ.K Γ.cl p i)
theorem SI.g {Γ : Gam} {e tg : Expr} {i : IT} (h : SI Γ e i) : SIg Γ tg e i := fun X p o => h X p tg o
/-- the walked places, as they stand behind new ones -/
def YPr (ds es : List D) (K : PySem.W.Frag) (B : Hp) (i : Nat) (v : V) : Prop := ∃ d, ds[i]? = some d ∧ Rp K B v d
theorem walk_en {K : PySem.W.Frag} {b : Bool} {a : Addr} {xs : List V} : Walk (Ien K b a) xs.length (fun H => SqB K b H a xs) (YPair (fun i => some (.int (i : Nat))) (fun i => xs[i]?)) := by
  refine ⟨fun i _ hi q => ⟨xs, _, q, List.getElem?_eq_getElem hi⟩, fun _ q => ⟨xs, q, rfl⟩, fun i H v H' _ q y => ?_⟩
  obtain ⟨T, x, h1, h2, h3, h4⟩ := y
  exact ⟨T, .int (i : Nat), x, h1, h2, h3, rfl, h4 xs q⟩
theorem walk_zp {K : PySem.W.Frag} {b c : Bool} {a d : Addr} {xs ys : List V} : Walk (Izp K b c a d) (min xs.length ys.length) (fun H => SqB K b H a xs ∧ SqB K c H d ys) (YPair (fun i => xs[i]?) (fun i => ys[i]?)) := by
  refine ⟨fun i _ hi q => ⟨xs, ys, _, _, q.1, q.2, List.getElem?_eq_getElem (by omega), List.getElem?_eq_getElem (by omega)⟩, fun _ q => ⟨xs, ys, q.1, q.2, rfl⟩, fun i H v H' _ q y => ?_⟩
  obtain ⟨T, x, y, h1, h2, h3, h4, h5⟩ := y
  exact ⟨T, x, y, h1, h2, h3, h4 xs q.1, h5 ys q.2⟩
theorem enD_get : ∀ {ds : List D} {k i : Nat} {d : D}, ds[i]? = some d → (enD k ds)[i]? = some (.tuple [.int ((k + i : Nat) : Int), d])
  | [], k, i, d, h => by simp at h
  | e :: ds, k, 0, d, h => by
    simp at h
    subst h
    rfl
  | e :: ds, k, i + 1, d, h => by
    have h' : ds[i]? = some d := by simpa using h
    have q := enD_get (k := k + 1) h'
    show (enD (k + 1) ds)[i]? = _
    rw [q, show k + 1 + i = k + (i + 1) by omega]
theorem enD_len : ∀ (k : Nat) (ds : List D), (enD k ds).length = ds.length
  | _, [] => rfl
  | k, _ :: ds => congrArg Nat.succ (enD_len (k + 1) ds)
theorem zpD_get {ds es : List D} {i : Nat} {d e : D} (h : ds[i]? = some d) (g : es[i]? = some e) : (zpD ds es)[i]? = some (.tuple [d, e]) := by
  unfold zpD
  rw [List.getElem?_zipWith, h, g]
theorem rngN_get {lo hi : Int} {ds : List D} (h : rngN lo hi = some ds) : (-(2 ^ 62) ≤ lo ∧ lo < 2 ^ 62 ∧ -(2 ^ 62) ≤ hi ∧ hi < 2 ^ 62) ∧ ds.length = (lo - hi).toNat ∧ ∀ i, i < (lo - hi).toNat → ds[i]? = some (.int (lo + (i : Int) * (-1))) := by
  obtain ⟨hb, rfl⟩ := ite_some h
  refine ⟨hb, by simp, fun i hi => ?_⟩
  rw [List.getElem?_map, List.getElem?_range hi, show lo + (i : Int) * (-1) = lo - i by omega]
  rfl
/-- a list or tuple that is known -/
theorem rp_sq {K : PySem.W.Frag} {B : Hp} {v : V} {x : D} {ds : List D} (p : Rp K B v x) (h : itD x = some ds) : ∃ b a xs, v = .ref a ∧ (∀ H, Ex B H → SqB K b H a xs) ∧ RpA K B xs ds := by
  cases p with
  | @lst a xs _ hx rx =>
    cases h
    exact ⟨true, a, xs, rfl, fun H e => .inl ⟨rfl, Or.inl (Or.inl (e _ _ hx))⟩, rx⟩
  | @tup a xs _ hx rx =>
    cases h
    exact ⟨false, a, xs, rfl, fun H e => .inr ⟨rfl, sqt_mono e hx⟩, rx⟩
  | _ => cases h
section
variable {Γ : Gam} {e a b : Expr} {ia ib i : IE} {pos p0 : Pos}
theorem si_seq (h : SE Γ e i) : SI Γ e (.seq i) := fun X p tg o => by
  have h1 := PI_or (PI_or (pi_list (tg := tg) (h X p o)) (pi_tup (tg := tg) (h X p o))) (pi_str (tg := tg) (h X p o))
  rw [o.K] at h1
  exact h1
theorem si_rng1 (h : SE Γ e i) (hb : Γ.bs.contains "range" = true := by rfl) (hg : GlS Γ.sc "range" := by rfl) (hs : ∀ env, starEach [e] env = [(false, eval e env)] := by intro _; rfl) : SI Γ (.Call (.Name "range" p0) [e] [] pos) (.rng1 i) := fun X p tg o =>
  pi_range1 (o.gl hg) (o.bl _ (List.contains_iff_mem.mp hb)) ((sa_cons h sa_nil hs) X p o) (hs _)
theorem si_rng3 (ha : SE Γ a ia) (hc : SE Γ b ib) {e3 : Expr} (h3 : SE Γ e3 (.cst (.int (-1)))) (hb : Γ.bs.contains "range" = true := by rfl) (hg : GlS Γ.sc "range" := by rfl) (hs : ∀ env, starEach [a, b, e3] env = (false, eval a env) :: starEach [b, e3] env := by intro _; rfl)
    (hs2 : ∀ env, starEach [b, e3] env = (false, eval b env) :: starEach [e3] env := by intro _; rfl) (hs3 : ∀ env, starEach [e3] env = (false, eval e3 env) :: starEach [] env := by intro _; rfl) (hpl : ∀ env, (backTo pos (starEach [b, e3] env)).any (·.1) = false := by intro _; rfl) : SI Γ (.Call (.Name "range" p0) [a, b, e3] [] pos) (.rng3 ia ib) := fun X p tg o =>
  pi_range3 (o.gl hg) (o.bl _ (List.contains_iff_mem.mp hb)) ((sa_cons ha (sa_cons hc (sa_cons h3 sa_nil hs3) hs2) hs) X p o) (hs _) (hpl _)
theorem si_enm {elts : List Expr} {kk : Nat} {tpos : Pos} (h : SE Γ e i) (hb : Γ.bs.contains "enumerate" = true := by rfl) (hg : GlS Γ.sc "enumerate" := by rfl) (hs : ∀ env, starEach [e] env = [(false, eval e env)] := by intro _; rfl) : SIg Γ (.Tuple elts kk tpos) (.Call (.Name "enumerate" p0) [e] [] pos) (.enm i) := fun X p o => by
  have q := pi_en (elts := elts) (kk := kk) (tpos := tpos) (p := p0) (pos := pos) (o.gl hg) (o.bl _ (List.contains_iff_mem.mp hb)) ((sa_cons h sa_nil hs) X p o) (hs _)
  rw [o.K] at q
  exact q
theorem si_zp {elts : List Expr} {kk : Nat} {tpos : Pos} (ha : SE Γ a ia) (hc : SE Γ b ib) (hb : Γ.bs.contains "zip" = true := by rfl) (hg : GlS Γ.sc "zip" := by rfl) (hs : ∀ env, starEach [a, b] env = (false, eval a env) :: starEach [b] env := by intro _; rfl)
    (hs2 : ∀ env, starEach [b] env = (false, eval b env) :: starEach [] env := by intro _; rfl) (hpl : ∀ env, (backTo pos (starEach [b] env)).any (·.1) = false := by intro _; rfl) : SIg Γ (.Tuple elts kk tpos) (.Call (.Name "zip" p0) [a, b] [] pos) (.zp ia ib) := fun X p o => by
  have q := pi_zp (elts := elts) (kk := kk) (tpos := tpos) (p := p0) (pos := pos) (o.gl hg) (o.bl _ (List.contains_iff_mem.mp hb)) ((sa_cons ha (sa_cons hc sa_nil hs2) hs) X p o) (hs _) (hpl _)
  rw [o.K] at q
  exact q
theorem si_rng2 (ha : SE Γ a ia) (hc : SE Γ b ib) (hb : Γ.bs.contains "range" = true := by rfl) (hg : GlS Γ.sc "range" := by rfl) (hs : ∀ env, starEach [a, b] env = [(false, eval a env), (false, eval b env)] := by intro _; rfl)
    (hs1 : ∀ env, starEach [a, b] env = (false, eval a env) :: starEach [b] env := by intro _; rfl) (hs2 : ∀ env, starEach [b] env = [(false, eval b env)] := by intro _; rfl) : SI Γ (.Call (.Name "range" p0) [a, b] [] pos) (.rng2 ia ib) := fun X p tg o =>
  pi_range2 (o.gl hg) (o.bl _ (List.contains_iff_mem.mp hb)) ((sa_cons ha (sa_cons hc sa_nil hs2) hs1) X p o) (hs _) (hs2 _)
end
section
variable {K : PySem.W.Frag} {cl : Cl} {p : Pa} {st st1 : Pl} {B M F : Hp} {env : List Sl} {σ : L2.St} {H : Hp} {ds : List D} {it : IT}
theorem itD_lst {d : D} {ds : List D} (h : itD d = some ds) : d = .list ds ∨ d = .tuple ds := by
  cases d with
  | list xs =>
    cases h
    exact .inl rfl
  | tuple xs =>
    cases h
    exact .inr rfl
  | _ => cases h
theorem rng_get {lo hi : Int} {ds : List D} (h : rngD lo hi = some ds) : (-(2 ^ 62) ≤ lo ∧ lo < 2 ^ 62 ∧ -(2 ^ 62) ≤ hi ∧ hi < 2 ^ 62) ∧ ds.length = (hi - lo).toNat ∧ ∀ i, i < (hi - lo).toNat → ds[i]? = some (.int (lo + (i : Int))) := by
  obtain ⟨hb, rfl⟩ := ite_some h
  refine ⟨hb, by simp, fun i hi => ?_⟩
  simp [hi]
theorem itS_lst {d : D} {ds : List D} (h : itS d = some ds) : d = .list ds ∨ d = .tuple ds ∨ ∃ z, d = .str z ∧ ds = signsD z := by
  cases d with
  | list xs =>
    cases h
    exact .inl rfl
  | tuple xs =>
    cases h
    exact .inr (.inl rfl)
  | str z =>
    cases h
    exact .inr (.inr ⟨z, rfl, rfl⟩)
  | _ => cases h
theorem signs_len (z : Str) : (signsD z).length = z.cps.size := by simp [signsD]
theorem signs_get {z : Str} {i c : Nat} (h : z.cps[i]? = some c) : (signsD z)[i]? = some (.str ⟨#[c]⟩) := by
  unfold signsD
  rw [List.getElem?_map, Array.getElem?_toList, h]
  rfl
/-- what a walk over it comes to: a rule for a loop, whatever is walked -/
theorem walk_for {D : Ends} {g : TG} {tb : TS} (r : Rel K p st B M F env σ H) (he : ei cl it env st = some (ds, st1)) (P : Hp → Nat → Hp → L2.St → Hp → Prop)
    (h0 : ∀ B1 H1, Ex B B1 → Rel K p st1 B1 M F env σ H1 → P B1 0 B1 σ H1) (hex : ∀ B1 i B' σ' H', P B1 i B' σ' H' → Ex B1 B' ∧ Ex B' H') (hn : ∀ B1 i B' σ' H' q o, P B1 i B' σ' H' → H' q = none → P B1 i (upd B' q o) σ' (upd H' q o))
    (hs : ∀ B1 i d v B' σ' H', Ex B B1 → ds[i]? = some d → Rp K B' v d → P B1 i B' σ' H' → g v σ' H' fun σ2 H2 => tb { D with nx := fun s h => ∃ B2, P B1 (i + 1) B2 s h, ct := fun s h => ∃ B2, P B1 (i + 1) B2 s h, bk := D.nx } σ2 H2)
    (hd : ∀ B1 B' σ' H', P B1 ds.length B' σ' H' → D.nx σ' H') : tFor (Ti K cl p it) g tb D σ H := by
  cases it with
  | seq e =>
    unfold ei at he
    cases e1 : ev cl e env st with
    | none =>
      rw [e1] at he
      cases he
    | some xs =>
      obtain ⟨x, st2⟩ := xs
      rw [e1] at he
      obtain ⟨ys, e2, e3⟩ := Option.map_eq_some_iff.mp he
      cases e3
      rcases itS_lst e2 with rfl | rfl | ⟨z, rfl, rfl⟩
      · refine .inl (.inl ⟨st, B, M, F, env, _, _, r, e1, fun v B1 H1 x1 r1 p1 => ?_⟩)
        cases p1 with
        | @lst a xs _ hx rx =>
          refine ⟨a, rfl, ⟨xs, Or.inl (Or.inl (r1.bs.b _ _ hx))⟩, ?_⟩
          refine for_list (xs := xs) (fun i s h => ∃ B', P B1 i B' s h) ⟨B1, h0 B1 H1 x1 r1⟩ (fun i s h _ q => ?_) (fun i v s h hi q => ?_) (fun s h q => ?_)
          · obtain ⟨B', q⟩ := q
            obtain ⟨y1, y2⟩ := hex _ _ _ _ _ q
            exact Or.inl (Or.inl (y2 _ _ (y1 _ _ hx)))
          · obtain ⟨B', q⟩ := q
            obtain ⟨d, h1, h2⟩ := rx.getV hi
            exact hs B1 i d v B' s h x1 h1 (h2.mono (hex _ _ _ _ _ q).1) q
          · obtain ⟨B', q⟩ := q
            rw [rx.length] at q
            exact hd B1 B' s h q
      · refine .inl (.inr ⟨st, B, M, F, env, _, _, r, e1, fun v B1 H1 x1 r1 p1 => ?_⟩)
        cases p1 with
        | @tup a xs _ hx rx =>
          refine ⟨a, rfl, ⟨xs, sqt_mono r1.bs.b hx⟩, ?_⟩
          refine for_tup (xs := xs) (fun i s h => ∃ B', P B1 i B' s h) ⟨B1, h0 B1 H1 x1 r1⟩ (fun i s h _ q => ?_) (fun i v s h hi q => ?_) (fun s h q => ?_)
          · obtain ⟨B', q⟩ := q
            obtain ⟨y1, y2⟩ := hex _ _ _ _ _ q
            exact sqt_mono (y1.trans y2) hx
          · obtain ⟨B', q⟩ := q
            obtain ⟨d, h1, h2⟩ := rx.getV hi
            exact hs B1 i d v B' s h x1 h1 (h2.mono (hex _ _ _ _ _ q).1) q
          · obtain ⟨B', q⟩ := q
            rw [rx.length] at q
            exact hd B1 B' s h q
      · refine .inr ⟨st, B, M, F, env, _, _, r, e1, fun v B1 H1 x1 r1 p1 => ?_⟩
        cases p1
        refine ⟨z, rfl, ?_⟩
        refine for_it walk_str (fun i s h => ∃ B', P B1 i B' s h) ⟨B1, h0 B1 H1 x1 r1⟩ (fun _ _ _ _ _ => True.intro) (fun i v s h h2 hi q y => ?_) (fun s h q => ?_)
        · obtain ⟨B', q⟩ := q
          obtain ⟨rfl, c, hc, rfl⟩ := y
          exact hs B1 i _ _ B' s h2 x1 (signs_get hc) (.str _) q
        · obtain ⟨B', q⟩ := q
          rw [← signs_len] at q
          exact hd B1 B' s h q
  | rng1 e =>
    unfold ei at he
    split at he
    · rename_i n st2 e1
      obtain ⟨ys, e2, e3⟩ := Option.map_eq_some_iff.mp he
      cases e3
      obtain ⟨⟨h1, h2, h3, h4⟩, hl, hg⟩ := rng_get e2
      refine ⟨st, B, M, F, env, [.int n], _, r, by unfold ea; rw [e1]; rfl, fun vs B1 H1 x1 r1 p1 => ?_⟩
      match vs, p1 with
      | [_], .cons (.int _) .nil =>
        refine ⟨n, rfl, h3, h4, ?_⟩
        have e0 : (n - 0).toNat = n.toNat := by rw [Int.sub_zero]
        rw [e0] at hl hg
        refine for_range (lo := 0) (n := n.toNat) (fun i s h => ∃ B', P B1 i B' s h) ⟨B1, h0 B1 H1 x1 r1⟩ (fun i s h hi q => ?_) (fun s h q => ?_)
        · obtain ⟨B', q⟩ := q
          exact hs B1 i _ _ B' s h x1 (hg i hi) (.int _) q
        · obtain ⟨B', q⟩ := q
          rw [← hl] at q
          exact hd B1 B' s h q
    · cases he
  | rng2 a b =>
    unfold ei at he
    split at he
    · rename_i lo st2 e1
      split at he
      · rename_i hi st3 e2
        obtain ⟨ys, e3, e4⟩ := Option.map_eq_some_iff.mp he
        cases e4
        obtain ⟨hbd, hl, hg⟩ := rng_get e3
        refine ⟨st, B, M, F, env, [.int lo, .int hi], _, r, by unfold ea; rw [e1]; unfold ea; simp only [e2]; rfl, fun vs B1 H1 x1 r1 p1 => ?_⟩
        match vs, p1 with
        | [_, _], .cons (.int _) (.cons (.int _) .nil) =>
          refine ⟨lo, hi, rfl, hbd, ?_⟩
          refine for_range (lo := lo) (n := (hi - lo).toNat) (fun i s h => ∃ B', P B1 i B' s h) ⟨B1, h0 B1 H1 x1 r1⟩ (fun i s h hi q => ?_) (fun s h q => ?_)
          · obtain ⟨B', q⟩ := q
            exact hs B1 i _ _ B' s h x1 (hg i hi) (.int _) q
          · obtain ⟨B', q⟩ := q
            rw [← hl] at q
            exact hd B1 B' s h q
      · cases he
    · cases he
  | rng3 a b =>
    unfold ei at he
    split at he
    · rename_i lo st2 e1
      split at he
      · rename_i hi st3 e2
        obtain ⟨ys, e3, e4⟩ := Option.map_eq_some_iff.mp he
        cases e4
        obtain ⟨⟨b1, b2, b3, b4⟩, hl, hg⟩ := rngN_get e3
        refine ⟨st, B, M, F, env, [.int lo, .int hi, .int (-1)], _, r, by unfold ea; rw [e1]; unfold ea; simp only [e2]; rfl, fun vs B1 H1 x1 r1 p1 => ?_⟩
        match vs, p1 with
        | [_, _, _], .cons (.int _) (.cons (.int _) (.cons (.int _) .nil)) =>
          refine ⟨lo, hi, -1, (lo - hi).toNat, rfl, RgC.neg b1 b2 b3 b4, ?_⟩
          refine for_rangeC (lo := lo) (c := -1) (n := (lo - hi).toNat) (fun i s h => ∃ B', P B1 i B' s h) ⟨B1, h0 B1 H1 x1 r1⟩ (fun i s h hi q => ?_) (fun s h q => ?_)
          · obtain ⟨B', q⟩ := q
            exact hs B1 i _ _ B' s h x1 (hg i hi) (.int _) q
          · obtain ⟨B', q⟩ := q
            rw [← hl] at q
            exact hd B1 B' s h q
      · cases he
    · cases he
  | enm e =>
    unfold ei at he
    split at he
    · rename_i x st2 e1
      obtain ⟨ys, e2, e3⟩ := Option.map_eq_some_iff.mp he
      cases e3
      refine ⟨st, B, M, F, env, [x], _, r, by unfold ea; rw [e1]; rfl, fun vs B1 H1 x1 r1 p1 => ?_⟩
      match vs, p1 with
      | [v], .cons pv .nil =>
        obtain ⟨b, a, xs, rfl, hq, rx⟩ := rp_sq pv e2
        refine ⟨b, a, xs, rfl, hq H1 r1.bs.b, ?_⟩
        refine for_it (walk_en (K := K) (b := b) (a := a) (xs := xs)) (fun i s h => ∃ B', P B1 i B' s h) ⟨B1, h0 B1 H1 x1 r1⟩ (fun i s h _ q => ?_) (fun i v s h h2 hi q y => ?_) (fun s h q => ?_)
        · obtain ⟨B', q⟩ := q
          obtain ⟨y1, y2⟩ := hex _ _ _ _ _ q
          exact hq h (y1.trans y2)
        · obtain ⟨B', q⟩ := q
          obtain ⟨T, x', y', rfl, hT, rfl, e4, e5⟩ := y
          cases e4
          obtain ⟨y1, y2⟩ := hex _ _ _ _ _ q
          obtain ⟨d, h3, h4⟩ := rx.getV e5
          have g := enD_get (k := 0) h3
          rw [Nat.zero_add] at g
          exact hs B1 i _ _ (upd B' T (.tup [.int (i : Nat), y'])) s _ x1 g (.tup (Or.inl (Or.inl upd_same)) (.cons (.int _) (.cons (h4.mono (y1.trans (Ex.new (y2.free hT)))) .nil))) (hn _ _ _ _ _ _ _ q hT)
        · obtain ⟨B', q⟩ := q
          rw [rx.length, ← enD_len 0] at q
          exact hd B1 B' s h q
    · cases he
  | zp a b =>
    unfold ei at he
    split at he
    · rename_i x st2 e1
      split at he
      · rename_i y st3 e2
        split at he
        · rename_i zx e3
          obtain ⟨zy, e4, e5⟩ := Option.map_eq_some_iff.mp he
          cases e5
          refine ⟨st, B, M, F, env, [x, y], _, r, by unfold ea; rw [e1]; unfold ea; simp only [e2]; rfl, fun vs B1 H1 x1 r1 p1 => ?_⟩
          match vs, p1 with
          | [v, u], .cons pv (.cons pu .nil) =>
            obtain ⟨b1, a1, xs, rfl, hq1, rx⟩ := rp_sq pv e3
            obtain ⟨b2, a2, ys, rfl, hq2, ry⟩ := rp_sq pu e4
            refine ⟨b1, b2, a1, a2, xs, ys, rfl, hq1 H1 r1.bs.b, hq2 H1 r1.bs.b, ?_⟩
            refine for_it (walk_zp (K := K) (b := b1) (c := b2) (a := a1) (d := a2) (xs := xs) (ys := ys)) (fun i s h => ∃ B', P B1 i B' s h) ⟨B1, h0 B1 H1 x1 r1⟩ (fun i s h _ q => ?_) (fun i v s h h2 hi q y => ?_) (fun s h q => ?_)
            · obtain ⟨B', q⟩ := q
              obtain ⟨y1, y2⟩ := hex _ _ _ _ _ q
              exact ⟨hq1 h (y1.trans y2), hq2 h (y1.trans y2)⟩
            · obtain ⟨B', q⟩ := q
              obtain ⟨T, x', y', rfl, hT, rfl, e4, e5⟩ := y
              obtain ⟨y1, y2⟩ := hex _ _ _ _ _ q
              obtain ⟨d, h3, h4⟩ := rx.getV e4
              obtain ⟨d2, h5, h6⟩ := ry.getV e5
              have n := y1.trans (Ex.new (o := .tup [x', y']) (y2.free hT))
              exact hs B1 i _ _ (upd B' T (.tup [x', y'])) s _ x1 (zpD_get h3 h5) (.tup (Or.inl (Or.inl upd_same)) (.cons (h4.mono n) (.cons (h6.mono n) .nil))) (hn _ _ _ _ _ _ _ q hT)
            · obtain ⟨B', q⟩ := q
              have e6 : min xs.length ys.length = (zpD zx zy).length := by rw [rx.length, ry.length]; exact List.length_zipWith.symm
              rw [e6] at q
              exact hd B1 B' s h q
        · cases he
      · cases he
    · cases he

/-- the same of a comprehension -/
theorem walk_lcG {Q : VK} {js : List Nat} {g : TG} {tt : TT} {te : TE} (r : Rel K p st B M F env σ H) (he : ei cl it env st = some (ds, st1)) (P : Hp → Addr → Nat → Hp → Hp → Prop)
    (h0 : ∀ B1 H1 Dl, Ex B B1 → Rel K p st1 B1 M F env σ H1 → H1 Dl = none → P B1 Dl 0 B1 (upd H1 Dl (.lst []))) (hex : ∀ B1 Dl i B' H', P B1 Dl i B' H' → Ex B1 B' ∧ Ex B' H') (hn : ∀ B1 Dl i B' H' q o, P B1 Dl i B' H' → H' q = none → P B1 Dl i (upd B' q o) (upd H' q o))
    (hst0 : ∀ B1 Dl i d v B' H', Ex B B1 → ds[i]? = some d → Rp K B' v d → P B1 Dl i B' H' → g v (wipe σ js) H' fun σ2 H2 => wipe σ2 js = wipe σ js ∧ tt σ2 H2 fun b H3 =>
      if b = true then te σ2 H3 fun y H4 => ∃ acc, H4 Dl = some (.lst acc) ∧ acc.length < sizeLine ∧ ∃ B2, P B1 Dl (i + 1) B2 (upd H4 Dl (.lst (acc ++ [y]))) else ∃ B2, P B1 Dl (i + 1) B2 H3)
    (hd : ∀ B1 Dl B' H', Ex B B1 → P B1 Dl ds.length B' H' → Q (.ref Dl) H') : tLc (Ti K cl p it) g tt te js σ H Q := by
  have hst : ∀ B1 Dl i d v B' H', Ex B B1 → ds[i]? = some d → Rp K B1 v d → P B1 Dl i B' H' → g v (wipe σ js) H' fun σ2 H2 => wipe σ2 js = wipe σ js ∧ tt σ2 H2 fun b H3 =>
      if b = true then te σ2 H3 fun y H4 => ∃ acc, H4 Dl = some (.lst acc) ∧ acc.length < sizeLine ∧ ∃ B2, P B1 Dl (i + 1) B2 (upd H4 Dl (.lst (acc ++ [y]))) else ∃ B2, P B1 Dl (i + 1) B2 H3 := fun B1 Dl i d v B' H' x1 hi pv q => hst0 B1 Dl i d v B' H' x1 hi (pv.mono (hex _ _ _ _ _ q).1) q
  cases it with
  | seq e =>
    unfold ei at he
    cases e1 : ev cl e env st with
    | none =>
      rw [e1] at he
      cases he
    | some xs =>
      obtain ⟨x, st2⟩ := xs
      rw [e1] at he
      obtain ⟨ys, e2, e3⟩ := Option.map_eq_some_iff.mp he
      cases e3
      rcases itS_lst e2 with rfl | rfl | ⟨z, rfl, rfl⟩
      · refine .inl (.inl ⟨st, B, M, F, env, _, _, r, e1, fun v B1 H1 x1 r1 p1 => ?_⟩)
        cases p1 with
        | @lst a xs _ hx rx =>
          refine ⟨a, rfl, ⟨xs, Or.inl (Or.inl (r1.bs.b _ _ hx))⟩, fun Dl hD => ?_⟩
          refine lc_list (xs := xs) (fun i h => ∃ B', P B1 Dl i B' h) ⟨B1, h0 B1 H1 Dl x1 r1 hD⟩ (fun i h _ q => ?_) (fun i v h hi q => ?_) (fun h q => ?_)
          · obtain ⟨B', q⟩ := q
            obtain ⟨y1, y2⟩ := hex _ _ _ _ _ q
            exact Or.inl (Or.inl (y2 _ _ (y1 _ _ hx)))
          · obtain ⟨B', q⟩ := q
            obtain ⟨d, h1, h2⟩ := rx.getV hi
            exact hst B1 Dl i d v B' h x1 h1 h2 q
          · obtain ⟨B', q⟩ := q
            rw [rx.length] at q
            exact hd B1 Dl B' h x1 q
      · refine .inl (.inr ⟨st, B, M, F, env, _, _, r, e1, fun v B1 H1 x1 r1 p1 => ?_⟩)
        cases p1 with
        | @tup a xs _ hx rx =>
          refine ⟨a, rfl, ⟨xs, sqt_mono r1.bs.b hx⟩, fun Dl hD => ?_⟩
          refine lc_tup (xs := xs) (fun i h => ∃ B', P B1 Dl i B' h) ⟨B1, h0 B1 H1 Dl x1 r1 hD⟩ (fun i h _ q => ?_) (fun i v h hi q => ?_) (fun h q => ?_)
          · obtain ⟨B', q⟩ := q
            obtain ⟨y1, y2⟩ := hex _ _ _ _ _ q
            exact sqt_mono (y1.trans y2) hx
          · obtain ⟨B', q⟩ := q
            obtain ⟨d, h1, h2⟩ := rx.getV hi
            exact hst B1 Dl i d v B' h x1 h1 h2 q
          · obtain ⟨B', q⟩ := q
            rw [rx.length] at q
            exact hd B1 Dl B' h x1 q
      · refine .inr ⟨st, B, M, F, env, _, _, r, e1, fun v B1 H1 x1 r1 p1 => ?_⟩
        cases p1
        refine ⟨z, rfl, fun Dl hD => ?_⟩
        refine lc_it walk_str (fun i h => ∃ B', P B1 Dl i B' h) ⟨B1, h0 B1 H1 Dl x1 r1 hD⟩ (fun _ _ _ _ => True.intro) (fun i v h h2 hi q y => ?_) (fun h q => ?_)
        · obtain ⟨B', q⟩ := q
          obtain ⟨rfl, c, hc, rfl⟩ := y
          exact hst B1 Dl i _ _ B' h2 x1 (signs_get hc) (.str _) q
        · obtain ⟨B', q⟩ := q
          rw [← signs_len] at q
          exact hd B1 Dl B' h x1 q
  | rng1 e =>
    unfold ei at he
    split at he
    · rename_i n st2 e1
      obtain ⟨ys, e2, e3⟩ := Option.map_eq_some_iff.mp he
      cases e3
      obtain ⟨⟨h1, h2, h3, h4⟩, hl, hg⟩ := rng_get e2
      refine ⟨st, B, M, F, env, [.int n], _, r, by unfold ea; rw [e1]; rfl, fun vs B1 H1 x1 r1 p1 => ?_⟩
      match vs, p1 with
      | [_], .cons (.int _) .nil =>
        refine ⟨n, rfl, h3, h4, fun Dl hD => ?_⟩
        have e0 : (n - 0).toNat = n.toNat := by rw [Int.sub_zero]
        rw [e0] at hl hg
        refine lc_range (lo := 0) (n := n.toNat) (fun i h => ∃ B', P B1 Dl i B' h) ⟨B1, h0 B1 H1 Dl x1 r1 hD⟩ (fun i h hi q => ?_) (fun h q => ?_)
        · obtain ⟨B', q⟩ := q
          exact hst B1 Dl i _ _ B' h x1 (hg i hi) (.int _) q
        · obtain ⟨B', q⟩ := q
          rw [← hl] at q
          exact hd B1 Dl B' h x1 q
    · cases he
  | rng2 a b =>
    unfold ei at he
    split at he
    · rename_i lo st2 e1
      split at he
      · rename_i hi st3 e2
        obtain ⟨ys, e3, e4⟩ := Option.map_eq_some_iff.mp he
        cases e4
        obtain ⟨hbd, hl, hg⟩ := rng_get e3
        refine ⟨st, B, M, F, env, [.int lo, .int hi], _, r, by unfold ea; rw [e1]; unfold ea; simp only [e2]; rfl, fun vs B1 H1 x1 r1 p1 => ?_⟩
        match vs, p1 with
        | [_, _], .cons (.int _) (.cons (.int _) .nil) =>
          refine ⟨lo, hi, rfl, hbd, fun Dl hD => ?_⟩
          refine lc_range (lo := lo) (n := (hi - lo).toNat) (fun i h => ∃ B', P B1 Dl i B' h) ⟨B1, h0 B1 H1 Dl x1 r1 hD⟩ (fun i h hi q => ?_) (fun h q => ?_)
          · obtain ⟨B', q⟩ := q
            exact hst B1 Dl i _ _ B' h x1 (hg i hi) (.int _) q
          · obtain ⟨B', q⟩ := q
            rw [← hl] at q
            exact hd B1 Dl B' h x1 q
      · cases he
    · cases he
  | rng3 a b =>
    unfold ei at he
    split at he
    · rename_i lo st2 e1
      split at he
      · rename_i hi st3 e2
        obtain ⟨ys, e3, e4⟩ := Option.map_eq_some_iff.mp he
        cases e4
        obtain ⟨⟨b1, b2, b3, b4⟩, hl, hg⟩ := rngN_get e3
        refine ⟨st, B, M, F, env, [.int lo, .int hi, .int (-1)], _, r, by unfold ea; rw [e1]; unfold ea; simp only [e2]; rfl, fun vs B1 H1 x1 r1 p1 => ?_⟩
        match vs, p1 with
        | [_, _, _], .cons (.int _) (.cons (.int _) (.cons (.int _) .nil)) =>
          refine ⟨lo, hi, -1, (lo - hi).toNat, rfl, RgC.neg b1 b2 b3 b4, fun Dl hD => ?_⟩
          refine lc_it (walk_rangeC (lo := lo) (c := -1) (n := (lo - hi).toNat)) (fun i h => ∃ B', P B1 Dl i B' h) ⟨B1, h0 B1 H1 Dl x1 r1 hD⟩ (fun _ _ _ _ => True.intro) (fun i v h h2 hi q y => ?_) (fun h q => ?_)
          · obtain ⟨B', q⟩ := q
            obtain ⟨rfl, rfl⟩ := y
            exact hst B1 Dl i _ _ B' h2 x1 (hg i hi) (.int _) q
          · obtain ⟨B', q⟩ := q
            rw [← hl] at q
            exact hd B1 Dl B' h x1 q
      · cases he
    · cases he
  | enm e =>
    unfold ei at he
    split at he
    · rename_i x st2 e1
      obtain ⟨ys, e2, e3⟩ := Option.map_eq_some_iff.mp he
      cases e3
      refine ⟨st, B, M, F, env, [x], _, r, by unfold ea; rw [e1]; rfl, fun vs B1 H1 x1 r1 p1 => ?_⟩
      match vs, p1 with
      | [v], .cons pv .nil =>
        obtain ⟨b, a, xs, rfl, hq, rx⟩ := rp_sq pv e2
        refine ⟨b, a, xs, rfl, hq H1 r1.bs.b, fun Dl hD => ?_⟩
        refine lc_it (walk_en (K := K) (b := b) (a := a) (xs := xs)) (fun i h => ∃ B', P B1 Dl i B' h) ⟨B1, h0 B1 H1 Dl x1 r1 hD⟩ (fun i h _ q => ?_) (fun i v h h2 hi q y => ?_) (fun h q => ?_)
        · obtain ⟨B', q⟩ := q
          obtain ⟨y1, y2⟩ := hex _ _ _ _ _ q
          exact hq h (y1.trans y2)
        · obtain ⟨B', q⟩ := q
          obtain ⟨T, x', y', rfl, hT, rfl, e4, e5⟩ := y
          cases e4
          obtain ⟨y1, y2⟩ := hex _ _ _ _ _ q
          obtain ⟨d, h3, h4⟩ := rx.getV e5
          have g := enD_get (k := 0) h3
          rw [Nat.zero_add] at g
          exact hst0 B1 Dl i _ _ (upd B' T (.tup [.int (i : Nat), y'])) _ x1 g (.tup (Or.inl (Or.inl upd_same)) (.cons (.int _) (.cons (h4.mono (y1.trans (Ex.new (y2.free hT)))) .nil))) (hn _ _ _ _ _ _ _ q hT)
        · obtain ⟨B', q⟩ := q
          rw [rx.length, ← enD_len 0] at q
          exact hd B1 Dl B' h x1 q
    · cases he
  | zp a b =>
    unfold ei at he
    split at he
    · rename_i x st2 e1
      split at he
      · rename_i y st3 e2
        split at he
        · rename_i zx e3
          obtain ⟨zy, e4, e5⟩ := Option.map_eq_some_iff.mp he
          cases e5
          refine ⟨st, B, M, F, env, [x, y], _, r, by unfold ea; rw [e1]; unfold ea; simp only [e2]; rfl, fun vs B1 H1 x1 r1 p1 => ?_⟩
          match vs, p1 with
          | [v, u], .cons pv (.cons pu .nil) =>
            obtain ⟨b1, a1, xs, rfl, hq1, rx⟩ := rp_sq pv e3
            obtain ⟨b2, a2, ys, rfl, hq2, ry⟩ := rp_sq pu e4
            refine ⟨b1, b2, a1, a2, xs, ys, rfl, hq1 H1 r1.bs.b, hq2 H1 r1.bs.b, fun Dl hD => ?_⟩
            refine lc_it (walk_zp (K := K) (b := b1) (c := b2) (a := a1) (d := a2) (xs := xs) (ys := ys)) (fun i h => ∃ B', P B1 Dl i B' h) ⟨B1, h0 B1 H1 Dl x1 r1 hD⟩ (fun i h _ q => ?_) (fun i v h h2 hi q y => ?_) (fun h q => ?_)
            · obtain ⟨B', q⟩ := q
              obtain ⟨y1, y2⟩ := hex _ _ _ _ _ q
              exact ⟨hq1 h (y1.trans y2), hq2 h (y1.trans y2)⟩
            · obtain ⟨B', q⟩ := q
              obtain ⟨T, x', y', rfl, hT, rfl, e4, e5⟩ := y
              obtain ⟨y1, y2⟩ := hex _ _ _ _ _ q
              obtain ⟨d, h3, h4⟩ := rx.getV e4
              obtain ⟨d2, h5, h6⟩ := ry.getV e5
              have n := y1.trans (Ex.new (o := .tup [x', y']) (y2.free hT))
              exact hst0 B1 Dl i _ _ (upd B' T (.tup [x', y'])) _ x1 (zpD_get h3 h5) (.tup (Or.inl (Or.inl upd_same)) (.cons (h4.mono n) (.cons (h6.mono n) .nil))) (hn _ _ _ _ _ _ _ q hT)
            · obtain ⟨B', q⟩ := q
              have e6 : min xs.length ys.length = (zpD zx zy).length := by rw [rx.length, ry.length]; exact List.length_zipWith.symm
              rw [e6] at q
              exact hd B1 Dl B' h x1 q
        · cases he
      · cases he
    · cases he
theorem walk_lc {Q : VK} {j : Nat} {tt : TT} {te : TE} (r : Rel K p st B M F env σ H) (he : ei cl it env st = some (ds, st1)) (P : Hp → Addr → Nat → Hp → Hp → Prop)
    (h0 : ∀ B1 H1 Dl, Ex B B1 → Rel K p st1 B1 M F env σ H1 → H1 Dl = none → P B1 Dl 0 B1 (upd H1 Dl (.lst []))) (hex : ∀ B1 Dl i B' H', P B1 Dl i B' H' → Ex B1 B' ∧ Ex B' H') (hn : ∀ B1 Dl i B' H' q o, P B1 Dl i B' H' → H' q = none → P B1 Dl i (upd B' q o) (upd H' q o))
    (hs : ∀ B1 Dl i d v B' H', Ex B B1 → ds[i]? = some d → Rp K B' v d → P B1 Dl i B' H' → tt (σ.set j (some v)) H' fun b H3 => if b = true then te (σ.set j (some v)) H3 fun y H4 => ∃ acc, H4 Dl = some (.lst acc) ∧ acc.length < sizeLine ∧ ∃ B2, P B1 Dl (i + 1) B2 (upd H4 Dl (.lst (acc ++ [y]))) else ∃ B2, P B1 Dl (i + 1) B2 H3)
    (hd : ∀ B1 Dl B' H', Ex B B1 → P B1 Dl ds.length B' H' → Q (.ref Dl) H') : tLc (Ti K cl p it) (gName j) tt te [j] σ H Q := by
  have hw : ∀ v : V, wipe ((wipe σ [j]).set j (some v)) [j] = wipe σ [j] := fun v => by simp [wipe]
  have hw2 : ∀ v : V, (wipe σ [j]).set j (some v) = σ.set j (some v) := fun v => by simp [wipe]
  refine walk_lcG r he P h0 hex hn (fun B1 Dl i d v B' H' x1 hi pv q => ?_) hd
  show wipe ((wipe σ [j]).set j (some v)) [j] = wipe σ [j] ∧ _
  refine ⟨hw v, ?_⟩
  rw [hw2 v]
  exact hs B1 Dl i d v B' H' x1 hi pv q
end
end Ip

set_option Elab.async false
set_option linter.all false
set_option maxRecDepth 100000
set_option maxHeartbeats 4000000
namespace Ip
open PySem L2
/-- an address that none of the parts knows -/
structure Fr (B M F : Hp) (p : Pa) (a : Addr) : Prop where
  b : B a = none
  m : M a = none
  f : F a = none
  p : a ≠ p
section
variable {K : PySem.W.Frag} {p : Pa} {st st' : Pl} {B B' M F : Hp} {env env' : List Sl} {σ σ' : L2.St} {H H' : Hp} {a : Addr} {o : HO}
theorem Rel.fr (r : Rel K p st B M F env σ H) (h : H a = none) : Fr B M F p a := ⟨r.bs.b.free h, r.m.free h, r.bs.f.free h, r.bs.pn h⟩
/-- such an address may change -/
theorem Rel.put (r : Rel K p st B M F env σ H) (f : Fr B M F p a) : Rel K p st B M F env σ (upd H a o) where
  bs := {
    b := r.bs.b.right f.b
    f := r.bs.f.right f.f
    d := r.bs.d
    pf := r.bs.pf
    pb := r.bs.pb
    pl := by
      obtain ⟨h1, h2⟩ := r.bs.pl
      exact ⟨by rw [upd_ne (fun e => f.p e.symm)]; exact h1, h2⟩ }
  m := r.m.right f.m
  md := r.md
  en := r.en
theorem SlR.up (f : M a = none) : ∀ {s : Sl} {w : Option V}, SlR K p B M s w → SlR K p B (upd M a o) s w
  | .no, _, _ => True.intro
  | .im _, some _, h => h
  | .im _, none, h => h
  | .ow _, some (.ref _), h => by
    obtain ⟨xs, h1, h2⟩ := h
    exact ⟨xs, by rw [upd_ne (ne_of_none h1 f)]; exact h1, h2⟩
  | .ow _, some .non, h | .ow _, some (.bl _), h | .ow _, some (.int _), h | .ow _, some (.str _), h | .ow _, some (.byt _), h | .ow _, some (.flt _), h | .ow _, some (.ty _), h | .ow _, none, h => h
  | .pl, some (.ref _), h => h
  | .pl, some .non, h | .pl, some (.bl _), h | .pl, some (.int _), h | .pl, some (.str _), h | .pl, some (.byt _), h | .pl, some (.flt _), h | .pl, some (.ty _), h | .pl, none, h => h
  | .er _ _, _, h => h
theorem EnR.up (f : M a = none) (h : EnR K p B M env σ) : EnR K p B (upd M a o) env σ := ⟨h.len, fun i s hi => by
  obtain ⟨w, h1, h2⟩ := h.at_ i s hi
  exact ⟨w, h1, h2.up f⟩, h.ap, h.io⟩
/-- such an object taken among the own ones -/
theorem Rel.take (r : Rel K p st B M F env σ H) (f : Fr B M F p a) (ha : H a = some o) : Rel K p st B (upd M a o) F env σ H where
  bs := r.bs
  m := fun b u h => by
    by_cases hb : b = a
    · subst hb
      rw [upd_same] at h
      rw [← h]
      exact ha
    · rw [upd_ne hb] at h
      exact r.m b u h
  md := fun b u h => by
    by_cases hb : b = a
    · subst hb
      exact ⟨f.b, f.f, f.p⟩
    · rw [upd_ne hb] at h
      exact r.md b u h
  en := r.en.up f.m
theorem EnR.set (h : EnR K p B M env σ) {v : V} {d : D} (pv : Rp K B v d) (j : Nat) : EnR K p B M (env.set j (.im d)) (σ.set j (some v)) where
  len := by rw [List.length_set, List.length_set]; exact h.len
  at_ := fun i s hi => by
    by_cases e : j = i
    · subst e
      have hl : j < env.length := by
        have := (List.getElem?_eq_some_iff.mp hi).1
        rw [List.length_set] at this
        exact this
      rw [List.getElem?_set_self hl] at hi
      cases hi
      exact ⟨some v, List.getElem?_set_self (by rw [← h.len]; exact hl), pv⟩
    · rw [List.getElem?_set_ne e] at hi
      obtain ⟨w, h1, h2⟩ := h.at_ i s hi
      exact ⟨w, by rw [List.getElem?_set_ne e]; exact h1, h2⟩
  ap := fun i k ds es b hi hk si sk => by
    have hne : ∀ {i : Nat} {ds : List D}, (env.set j (.im d))[i]? = some (.ow ds) → j ≠ i := fun {i ds} hi e => by
      subst e
      have hl : j < env.length := by
        have := (List.getElem?_eq_some_iff.mp hi).1
        rw [List.length_set] at this
        exact this
      rw [List.getElem?_set_self hl] at hi
      cases hi
    have n1 := hne hi
    have n2 := hne hk
    rw [List.getElem?_set_ne n1] at hi si
    rw [List.getElem?_set_ne n2] at hk sk
    exact h.ap i k ds es b hi hk si sk
  io := fun i a ds hp hi => by
    by_cases e : j = i
    · subst e
      have hl : j < env.length := by
        have := (List.getElem?_eq_some_iff.mp hi).1
        rw [List.length_set] at this
        exact this
      rw [List.getElem?_set_self hl] at hi
      cases hi
    · rw [List.getElem?_set_ne e] at hi ⊢
      exact h.io i a ds hp hi
theorem Rel.set (r : Rel K p st B M F env σ H) {v : V} {d : D} (pv : Rp K B v d) (j : Nat) : Rel K p st B M F (env.set j (.im d)) (σ.set j (some v)) H := ⟨r.bs, r.m, r.md, r.en.set pv j⟩
/-- behind a block that had one own object more, and names of its own -/
theorem Rel.rest (r : Rel K p st B M F env σ H) (f : M a = none) (x : Ex B B') (r' : Rel K p st' B' (upd M a o) F env' σ' H') : Rel K p st' B' M F env σ H' where
  bs := r'.bs
  m := fun b u h => r'.m b u (by rw [upd_ne (ne_of_none h f)]; exact h)
  md := fun b u h => ⟨(r'.md b u (by rw [upd_ne (ne_of_none h f)]; exact h)).1, (r.md b u h).2⟩
  en := r.en.mono x
theorem Rel.restFr (f : Fr B M F p a) (r' : Rel K p st' B' (upd M a o) F env' σ' H') : Fr B' M F p a ∧ H' a = some o := ⟨⟨(r'.md a o upd_same).1, f.m, f.f, f.p⟩, r'.m a o upd_same⟩
end
/-! ### comprehensions -/
section
variable {Γ : Gam} {e : Expr} {i : IE} {pos : Pos}
theorem sts_nil : STs Γ [] .nil := fun X p o => PTs_weak pts_nil fun σ H Q q => by
  obtain ⟨st, B, M, F, env, b, st', r, he, k⟩ := q
  unfold et at he
  cases he
  exact k B H (Ex.refl B) r
theorem sts_one (h : ST Γ e i) : STs Γ [e] (.cons i .nil) := fun X p o => PTs_weak (pts_one (h X p o)) fun σ H Q q => by
  obtain ⟨st, B, M, F, env, b, st', r, he, k⟩ := q
  unfold et at he
  split at he
  · rename_i st1 e1
    unfold et at he
    cases he
    exact ⟨st, B, M, F, env, true, _, r, e1, k⟩
  · rename_i st1 e1
    cases he
    exact ⟨st, B, M, F, env, false, _, r, e1, k⟩
  · cases he
def lcF (cl : Cl) (j : Nat) (cs : IEs) (e : IE) (env : List Sl) : D → Pl → Option (Option D × Pl) := fun d st => match et cl cs (env.set j (.im d)) st with
        | some (true, st2) => (match ev cl e (env.set j (.im d)) st2 with
          | some (y, st3) => some (some y, st3)
          | none => none)
        | some (false, st2) => some (none, st2)
        | none => none
theorem ev_lc {cl : Cl} {j : Nat} {it : IT} {cs : IEs} {e : IE} {env : List Sl} {st : Pl} {d : D} {st4 : Pl} (h : ev cl (.lc j it cs e) env st = some (d, st4)) :
    ∃ ds st1 ys, ei cl it env st = some (ds, st1) ∧ ds.length ≤ most ∧ lcG (lcF cl j cs e env) ds st1 = some (ys, st4) ∧ d = .list ys := by
  unfold ev at h
  split at h
  · rename_i ds st1 e1
    obtain ⟨hl, h⟩ : ds.length ≤ most ∧ _ := by
      by_cases hl : ds.length ≤ most
      · rw [if_pos hl] at h
        exact ⟨hl, h⟩
      · rw [if_neg hl] at h
        cases h
    split at h
    · rename_i ys st5 e2
      cases h
      exact ⟨ds, st1, ys, e1, hl, e2, rfl⟩
    · cases h
  · cases h
theorem lcG_cons {f : D → Pl → Option (Option D × Pl)} {d : D} {ds : List D} {st : Pl} {ys : List D} {st4 : Pl} (h : lcG f (d :: ds) st = some (ys, st4)) :
    (∃ st1, f d st = some (none, st1) ∧ lcG f ds st1 = some (ys, st4)) ∨ (∃ y st1 zs, f d st = some (some y, st1) ∧ lcG f ds st1 = some (zs, st4) ∧ ys = y :: zs) := by
  unfold lcG at h
  split at h
  · rename_i st1 e1
    exact .inl ⟨st1, e1, h⟩
  · rename_i y st1 e1
    split at h
    · rename_i zs st2 e2
      cases h
      exact .inr ⟨y, st1, zs, e1, e2, rfl⟩
    · cases h
  · cases h
theorem lcP_new {K : PySem.W.Frag} {B B1 B' M F : Hp} {p : Pa} {Dl q : Addr} {n : Nat} {H' : Hp} {o : HO} {env : List Sl} {σ : L2.St} {R : List D → Pl → List D → Prop}
    (z : Ex B1 B' ∧ Ex B' H' ∧ Ex B B' ∧ ∃ sti acc zs rest, Rel K p sti B' M F env σ H' ∧ H' Dl = some (.lst acc) ∧ RpA K B' acc zs ∧ Fr B' M F p Dl ∧ zs.length ≤ n ∧ R zs sti rest) (hq : H' q = none) :
    Ex B1 (upd B' q o) ∧ Ex (upd B' q o) (upd H' q o) ∧ Ex B (upd B' q o) ∧ ∃ sti acc zs rest, Rel K p sti (upd B' q o) M F env σ (upd H' q o) ∧ (upd H' q o) Dl = some (.lst acc) ∧ RpA K (upd B' q o) acc zs ∧ Fr (upd B' q o) M F p Dl ∧ zs.length ≤ n ∧ R zs sti rest := by
  obtain ⟨x1, x2, x3, sti, acc, zs, rest, r, ha, ra, f, hz, hr⟩ := z
  have nb : B' q = none := x2.free hq
  have hd : Dl ≠ q := ne_of_none ha hq
  exact ⟨x1.trans (Ex.new nb), x2.up, x3.trans (Ex.new nb), sti, acc, zs, rest, r.new hq, by rw [upd_ne hd]; exact ha, ra.mono (Ex.new nb), ⟨by rw [upd_ne hd]; exact f.b, f.m, f.f, f.p⟩, hz, hr⟩
theorem lc_read {K : PySem.W.Frag} {cl : Cl} {j : Nat} {it : IT} {cs : IEs} {ie : IE} {σ : L2.St} {H : Hp} {Q : VK} (q : Tf K cl p (.lc j it cs ie) σ H Q) : tLc (Ti K cl p it) (gName j) (Ts K cl p cs) (Tx K cl p ie) [j] σ H Q := by
  obtain ⟨st, B, M, F, env, ds, st', r, he, k⟩ := q
  obtain ⟨dz, st1, ys, e1, hl, e2, e3⟩ := ev_lc he
  cases e3
  refine walk_lc r e1 (fun B1 Dl n B' H' => Ex B1 B' ∧ Ex B' H' ∧ Ex B B' ∧ ∃ sti acc zs rest, Rel K p sti B' M F env σ H' ∧ H' Dl = some (.lst acc) ∧ RpA K B' acc zs ∧ Fr B' M F p Dl ∧ zs.length ≤ n ∧ lcG (lcF cl j cs ie env) (dz.drop n) sti = some (rest, st') ∧ zs ++ rest = ds)
    (fun B1 H1 Dl x1 r1 hD => ?_) (fun B1 Dl n B' H' q => ⟨q.1, q.2.1⟩) (fun B1 Dl n B' H' q o z hq => lcP_new (R := fun zs sti rest => lcG (lcF cl j cs ie env) (dz.drop n) sti = some (rest, st') ∧ zs ++ rest = ds) z hq) (fun B1 Dl n d v B' H' x1 hd pv q => ?_) (fun B1 Dl B' H' x1 q => ?_)
  · have f := r1.fr hD
    exact ⟨Ex.refl B1, (r1.put f).bs.b, x1, st1, [], [], ds, r1.put f, upd_same, .nil, f, Nat.le_refl _, e2, rfl⟩
  · obtain ⟨x2, x3, x4, sti, acc, zs, rest, r2, hacc, racc, f, hz, e4, e5⟩ := q
    have hdr : dz.drop n = d :: dz.drop (n + 1) := List.drop_eq_getElem_cons (by
        exact (List.getElem?_eq_some_iff.mp hd).1) |>.trans (by rw [(List.getElem?_eq_some_iff.mp hd).2])
    have hn : n < dz.length := (List.getElem?_eq_some_iff.mp hd).1
    rw [hdr] at e4
    have r3 := (r2.take f hacc).set pv j
    have key : ∀ (b : Bool) (st2 : Pl), et cl cs (env.set j (.im d)) sti = some (b, st2) → (b = false → lcG (lcF cl j cs ie env) (dz.drop (n + 1)) st2 = some (rest, st')) →
        (b = true → ∃ y st3 zs', ev cl ie (env.set j (.im d)) st2 = some (y, st3) ∧ lcG (lcF cl j cs ie env) (dz.drop (n + 1)) st3 = some (zs', st') ∧ rest = y :: zs') → Ts K cl p cs (σ.set j (some v)) H' fun b H3 => if b = true then Tx K cl p ie (σ.set j (some v)) H3 fun y H4 => ∃ acc, H4 Dl = some (.lst acc) ∧ acc.length < sizeLine ∧ ∃ B2, (Ex B1 B2 ∧ Ex B2 (upd H4 Dl (.lst (acc ++ [y]))) ∧ Ex B B2 ∧ ∃ sti acc' zs rest, Rel K p sti B2 M F env σ (upd H4 Dl (.lst (acc ++ [y]))) ∧ (upd H4 Dl (.lst (acc ++ [y]))) Dl = some (.lst acc') ∧ RpA K B2 acc' zs ∧ Fr B2 M F p Dl ∧ zs.length ≤ n + 1 ∧ lcG (lcF cl j cs ie env) (dz.drop (n + 1)) sti = some (rest, st') ∧ zs ++ rest = ds) else ∃ B2, (Ex B1 B2 ∧ Ex B2 H3 ∧ Ex B B2 ∧ ∃ sti acc zs rest, Rel K p sti B2 M F env σ H3 ∧ H3 Dl = some (.lst acc) ∧ RpA K B2 acc zs ∧ Fr B2 M F p Dl ∧ zs.length ≤ n + 1 ∧ lcG (lcF cl j cs ie env) (dz.drop (n + 1)) sti = some (rest, st') ∧ zs ++ rest = ds) := fun b st2 e6 h0 h1 => by
      refine ⟨sti, B', upd M Dl (.lst acc), F, env.set j (.im d), b, st2, r3, e6, fun B3 H3 x5 r4 => ?_⟩
      cases b with
      | false =>
        refine iteF ⟨B3, x2.trans x5, r4.bs.b, x4.trans x5, st2, acc, zs, rest, r2.rest f.m x5 r4, (Rel.restFr f r4).2, racc.mono x5, (Rel.restFr f r4).1, by omega, h0 rfl, e5⟩
      | true =>
        obtain ⟨y, st3, zs', e7, e8, e9⟩ := h1 rfl
        refine iteT ⟨st2, B3, upd M Dl (.lst acc), F, env.set j (.im d), y, st3, r4, e7, fun w B4 H4 x6 r5 pw => ?_⟩
        have f4 := Rel.restFr f r5
        have r6 := (r2.rest f.m (x5.trans x6) r5).put (o := .lst (acc ++ [w])) f4.1
        refine ⟨acc, f4.2, most_lt (by rw [racc.length]; omega), B4, (x2.trans x5).trans x6, r6.bs.b, (x4.trans x5).trans x6, st3, acc ++ [w], zs ++ [y], zs', r6, upd_same, (racc.mono (x5.trans x6)).append (.one pw), f4.1, by rw [List.length_append]; show zs.length + 1 ≤ n + 1; omega, e8, by rw [List.append_assoc, ← e5, e9]; rfl⟩
    rcases lcG_cons e4 with ⟨st3, e6, e7⟩ | ⟨y, st3, zs', e6, e7, e8⟩
    · unfold lcF at e6
      split at e6
      · split at e6 <;> cases e6
      · rename_i st2 e9
        cases e6
        exact key false _ e9 (fun _ => e7) (fun z => nomatch z)
      · cases e6
    · unfold lcF at e6
      split at e6
      · rename_i st2 e9
        split at e6
        · rename_i y2 st5 e10
          cases e6
          exact key true _ e9 (fun z => nomatch z) (fun _ => ⟨_, _, _, e10, e7, e8⟩)
        · cases e6
      · cases e6
      · cases e6
  · obtain ⟨x2, x3, x4, sti, acc, zs, rest, r2, hacc, racc, f, hz, e4, e5⟩ := q
    rw [List.drop_length] at e4
    unfold lcG at e4
    cases e4
    rw [List.append_nil] at e5
    subst e5
    exact k Dl acc B' H' x4 f.b f.m f.f f.p hacc racc r2
theorem lc_sf {elt iter : Expr} {ifs : List Expr} {scope : Scope} {x : Str} {px : Pos} {it : IT} {cs : IEs} {ie : IE} (j : Nat) (hi : SI Γ iter it) (hc : STs (Γ.blk scope) ifs cs) (he : SE (Γ.blk scope) elt ie) (hh : Γ.hot = false := by rfl)
    (hb : blkC Γ.N Γ.sc scope [(x, j)] = true := by rfl) (hj : Γ.N[j]? = some x := by rfl) (hlx : (relS scope Γ.sc).names.lookup x = some .local := by rfl)
    (hs : ∀ env y, foldedSetIterable iter env y = pure y := by intro _ _; rfl) : SF Γ (.ListComp elt [⟨.Name x px, iter, ifs, 0⟩] scope pos) (.lc j it cs ie) := fun X p o => by
  refine PE_weak (pe_lc (own := [(x, j)]) (g := gName j) (tt := Ts Γ.K Γ.cl p cs) (te := Tx Γ.K Γ.cl p ie) (o.calm hh) (by rw [o.N]; exact o.nd) (hi X p _ o) (blkOk_by (by rw [o.N, o.sc]; exact hb))
    (fun s H C cl fp => ?_) (fun s H C cl fp => hc _ p (o.blk hh scope s H C cl fp)) (fun s H C cl fp => he _ p (o.blk hh scope s H C cl fp)) (hs _)) fun σ H Q q => ?_
  · have ob := o.blk hh scope s H C cl fp
    refine pg_name (show X.N.Nodup by rw [o.N]; exact o.nd) (show X.N[j]? = some x by rw [o.N]; exact hj) (show Loc _ x from .inl (by rw [ob.sc]; exact hlx)) ?_
    exact .inr (by rw [ob.sc]; exact hlx)
  · exact lc_read q
theorem lc_se {elt iter : Expr} {ifs : List Expr} {scope : Scope} {x : Str} {px : Pos} {it : IT} {cs : IEs} {ie : IE} (j : Nat) (hi : SI Γ iter it) (hc : STs (Γ.blk scope) ifs cs) (he : SE (Γ.blk scope) elt ie) (hh : Γ.hot = false := by rfl)
    (hb : blkC Γ.N Γ.sc scope [(x, j)] = true := by rfl) (hj : Γ.N[j]? = some x := by rfl) (hlx : (relS scope Γ.sc).names.lookup x = some .local := by rfl)
    (hs : ∀ env y, foldedSetIterable iter env y = pure y := by intro _ _; rfl) : SE Γ (.ListComp elt [⟨.Name x px, iter, ifs, 0⟩] scope pos) (.lc j it cs ie) := (lc_sf j hi hc he hh hb hj hlx hs).se fun _ _ _ _ _ h => by
  obtain ⟨_, _, ys, _, _, _, e⟩ := ev_lc h
  exact ⟨ys, e⟩
end
end Ip

set_option Elab.async false
set_option linter.all false
set_option maxRecDepth 100000
set_option maxHeartbeats 4000000
namespace Ip
open PySem L2
section
variable {K : PySem.W.Frag} {p : Pa} {st st' : Pl} {B B' M F : Hp} {env env' : List Sl} {σ σ' : L2.St} {H H' : Hp} {a : Addr} {o : HO}
/-- a new list among the own ones, kept by a name -/
theorem Rel.setOw (r : Rel K p st B M F env σ H) {xs : List V} {ds : List D} (f : Fr B M F p a) (ha : H a = some (.lst xs)) (rx : RpA K B xs ds) (j : Nat) (hio : ∀ c, p.io ≠ some (j, c)) : Rel K p st B (upd M a (.lst xs)) F (env.set j (.ow ds)) (σ.set j (some (.ref a))) H where
  bs := r.bs
  m := (r.take f ha).m
  md := (r.take f ha).md
  en := {
    len := by rw [List.length_set, List.length_set]; exact r.en.len
    at_ := fun i s hi => by
      by_cases e : j = i
      · subst e
        have hl : j < env.length := by
          have := (List.getElem?_eq_some_iff.mp hi).1
          rw [List.length_set] at this
          exact this
        rw [List.getElem?_set_self hl] at hi
        cases hi
        exact ⟨some (.ref a), List.getElem?_set_self (by rw [← r.en.len]; exact hl), xs, upd_same, rx⟩
      · rw [List.getElem?_set_ne e] at hi
        obtain ⟨w, h1, h2⟩ := r.en.at_ i s hi
        exact ⟨w, by rw [List.getElem?_set_ne e]; exact h1, h2.up f.m⟩
    ap := fun i k es fs b hi hk si sk => by
      have old : ∀ {i : Nat} {es : List D}, j ≠ i → (env.set j (.ow ds))[i]? = some (.ow es) → (σ.set j (some (.ref a)))[i]? = some (some (.ref b)) → b ≠ a := fun {i es} e hi si => by
        rw [List.getElem?_set_ne e] at hi si
        obtain ⟨w, h1, h2⟩ := r.en.at_ i _ hi
        rw [si] at h1
        cases h1
        obtain ⟨zs, h3, _⟩ := h2
        exact ne_of_none h3 f.m
      have new : ∀ {i : Nat}, j = i → (σ.set j (some (.ref a)))[i]? = some (some (.ref b)) → b = a := fun {i} e si => by
        subst e
        have hl : j < σ.length := by
          have := (List.getElem?_eq_some_iff.mp si).1
          rw [List.length_set] at this
          exact this
        rw [List.getElem?_set_self hl] at si
        cases si
        rfl
      by_cases e1 : j = i
      · by_cases e2 : j = k
        · rw [← e1, ← e2]
        · exact absurd (new e1 si) (old e2 hk sk)
      · by_cases e2 : j = k
        · exact absurd (new e2 sk) (old e1 hi si)
        · rw [List.getElem?_set_ne e1] at hi si
          rw [List.getElem?_set_ne e2] at hk sk
          exact r.en.ap i k es fs b hi hk si sk
    io := fun i c es hp hi => by
      by_cases e : j = i
      · subst e
        exact absurd hp (hio c)
      · rw [List.getElem?_set_ne e] at hi ⊢
        exact r.en.io i c es hp hi }
/-- an own list grows -/
theorem Rel.grow (r : Rel K p st B M F env σ H) {i : Nat} {xs ys : List V} {ds es : List D} (he : env[i]? = some (.ow ds)) (hs : σ[i]? = some (some (.ref a))) (hm : M a = some (.lst xs)) (ry : RpA K B ys es) :
    Rel K p st B (upd M a (.lst ys)) F (env.set i (.ow es)) σ (upd H a (.lst ys)) where
  bs := by
    obtain ⟨h1, h2, h3⟩ := r.md a _ hm
    refine ⟨r.bs.b.right h1, r.bs.f.right h2, r.bs.d, r.bs.pf, r.bs.pb, ?_⟩
    obtain ⟨h4, h5⟩ := r.bs.pl
    exact ⟨by rw [upd_ne (fun e => h3 e.symm)]; exact h4, h5⟩
  m := r.m.up
  md := fun b u h => by
    by_cases hb : b = a
    · subst hb
      exact r.md b _ hm
    · rw [upd_ne hb] at h
      exact r.md b u h
  en := {
    len := by rw [List.length_set]; exact r.en.len
    at_ := fun k s hk => by
      by_cases e : i = k
      · subst e
        have hl : i < env.length := (List.getElem?_eq_some_iff.mp he).1
        rw [List.getElem?_set_self hl] at hk
        cases hk
        exact ⟨_, hs, ys, upd_same, ry⟩
      · rw [List.getElem?_set_ne e] at hk
        obtain ⟨w, h1, h2⟩ := r.en.at_ k s hk
        refine ⟨w, h1, ?_⟩
        cases s with
        | ow fs =>
          cases w with
          | none => exact h2
          | some v =>
            cases v with
            | ref b =>
              obtain ⟨zs, h3, h4⟩ := h2
              have hba : b ≠ a := fun z => by
                subst z
                exact e (r.en.ap i k ds fs b he hk hs h1)
              exact ⟨zs, by rw [upd_ne hba]; exact h3, h4⟩
            | _ => exact h2
        | no => exact h2
        | im d =>
          cases w with
          | none => exact h2
          | some v => exact h2
        | pl =>
          cases w with
          | none => exact h2
          | some v => cases v <;> exact h2
        | er c d => exact h2
    ap := fun k l es' fs b hk hl sk sl => by
      have old : ∀ {k : Nat} {es' : List D}, (env.set i (.ow es))[k]? = some (.ow es') → ∃ fs, env[k]? = some (.ow fs) := fun {k es'} hk => by
        by_cases e : i = k
        · subst e
          exact ⟨ds, he⟩
        · rw [List.getElem?_set_ne e] at hk
          exact ⟨_, hk⟩
      obtain ⟨f1, h1⟩ := old hk
      obtain ⟨f2, h2⟩ := old hl
      exact r.en.ap k l f1 f2 b h1 h2 sk sl
    io := fun k c es' hp hk => by
      by_cases e : i = k
      · subst e
        exact r.en.io i c ds hp he
      · rw [List.getElem?_set_ne e] at hk
        exact r.en.io k c es' hp hk }
/-- an own list becomes known for good -/
theorem Rel.freeze (r : Rel K p st B M F env σ H) (i : Nat) : ∃ B' M', Ex B B' ∧ (∀ b u, M b = some u → M' b = some u ∨ B' b = some u) ∧ Rel K p st B' M' F (env.modify i frzS) σ H := by
  cases he : env[i]? with
  | none =>
    have e : env.modify i frzS = env := by
      apply List.ext_getElem?
      intro k
      rw [List.getElem?_modify]
      by_cases e : i = k
      · subst e
        rw [he]
        simp
      · simp [e]
    rw [e]
    exact ⟨B, M, Ex.refl B, fun _ _ h => .inl h, r⟩
  | some s =>
    have same : (∀ ds, s ≠ .ow ds) → env.modify i frzS = env := fun h => by
      apply List.ext_getElem?
      intro k
      rw [List.getElem?_modify]
      by_cases e : i = k
      · subst e
        rw [he]
        cases s with
        | ow ds => exact absurd rfl (h ds)
        | _ => simp [frzS]
      · simp [e]
    cases s with
    | ow ds =>
      obtain ⟨w, h1, h2⟩ := r.en.at_ i _ he
      cases w with
      | none => exact h2.elim
      | some v =>
        cases v with
        | ref a =>
          obtain ⟨xs, h3, h4⟩ := h2
          obtain ⟨g1, g2, g3⟩ := r.md a _ h3
          have x : Ex B (upd B a (.lst xs)) := Ex.new g1
          refine ⟨upd B a (.lst xs), fun b => if b = a then none else M b, x, fun b u h => ?_, ?_, ?_, ?_, ?_⟩
          · by_cases hb : b = a
            · subst hb
              rw [h3] at h
              cases h
              exact .inr upd_same
            · exact .inl (by simp only [if_neg hb]; exact h)
          · refine ⟨fun c u e => ?_, r.bs.f, fun c u e => ?_, r.bs.pf, ?_, ?_⟩
            · by_cases hc : c = a
              · subst hc
                rw [upd_same] at e
                rw [← e]
                exact r.m _ _ h3
              · rw [upd_ne hc] at e
                exact r.bs.b c u e
            · rw [upd_ne (ne_of_none e g2)]
              exact r.bs.d c u e
            · rw [upd_ne (fun e => g3 e.symm)]
              exact r.bs.pb
            · obtain ⟨q1, q2⟩ := r.bs.pl
              exact ⟨q1, x _ _ q2⟩
          · intro b u h
            by_cases hb : b = a
            · simp [hb] at h
            · simp only [if_neg hb] at h
              exact r.m b u h
          · intro b u h
            by_cases hb : b = a
            · simp [hb] at h
            · simp only [if_neg hb] at h
              rw [upd_ne hb]
              exact r.md b u h
          · refine ⟨by rw [List.length_modify]; exact r.en.len, fun k s hk => ?_, fun k l es fs b hk hl sk sl => ?_, fun k c es hp hk => r.en.io k c es hp (by
                rw [List.getElem?_modify] at hk
                by_cases e : i = k
                · subst e
                  rw [he] at hk
                  simp [frzS] at hk
                · simpa [e] using hk)⟩
            · rw [List.getElem?_modify] at hk
              by_cases e : i = k
              · subst e
                rw [he] at hk
                simp [frzS] at hk
                subst hk
                exact ⟨_, h1, .lst upd_same (h4.mono x)⟩
              · simp [e] at hk
                obtain ⟨w, q1, q2⟩ := r.en.at_ k s hk
                refine ⟨w, q1, ?_⟩
                cases s with
                | ow fs =>
                  cases w with
                  | none => exact q2
                  | some v =>
                    cases v with
                    | ref b =>
                      obtain ⟨zs, q3, q4⟩ := q2
                      have hba : b ≠ a := fun z => by
                        subst z
                        exact e (r.en.ap i k ds fs b he hk h1 q1)
                      exact ⟨zs, by simp only [if_neg hba]; exact q3, q4.mono x⟩
                    | _ => exact q2
                | no => exact q2
                | im d =>
                  cases w with
                  | none => exact q2
                  | some v => exact Rp.mono x q2
                | pl =>
                  cases w with
                  | none => exact q2
                  | some v => cases v <;> exact q2
                | er c d =>
                  obtain ⟨a1, dd, f, u, z1, z2, z3, z4⟩ := q2
                  exact ⟨a1, dd, f, u, z1, z2, x _ _ z3, z4.mono x⟩
            · have old : ∀ {k : Nat} {es : List D}, (env.modify i frzS)[k]? = some (.ow es) → env[k]? = some (.ow es) := fun {k es} hk => by
                rw [List.getElem?_modify] at hk
                by_cases e : i = k
                · subst e
                  rw [he] at hk
                  simp [frzS] at hk
                · simpa [e] using hk
              exact r.en.ap k l es fs b (old hk) (old hl) sk sl
        | _ => exact h2.elim
    | no => rw [same (fun _ z => nomatch z)]; exact ⟨B, M, Ex.refl B, fun _ _ h => .inl h, r⟩
    | im d => rw [same (fun _ z => nomatch z)]; exact ⟨B, M, Ex.refl B, fun _ _ h => .inl h, r⟩
    | er c d => rw [same (fun _ z => nomatch z)]; exact ⟨B, M, Ex.refl B, fun _ _ h => .inl h, r⟩
    | pl => rw [same (fun _ z => nomatch z)]; exact ⟨B, M, Ex.refl B, fun _ _ h => .inl h, r⟩
theorem Rel.freezeAll : ∀ (is : List Nat) {B M : Hp} {env : List Sl}, Rel K p st B M F env σ H → ∃ B' M', Ex B B' ∧ (∀ b u, M b = some u → M' b = some u ∨ B' b = some u) ∧ Rel K p st B' M' F (frzE env is) σ H
  | [], B, M, env, r => ⟨B, M, Ex.refl B, fun _ _ h => .inl h, r⟩
  | i :: is, B, M, env, r => by
    obtain ⟨B1, M1, x1, y1, r1⟩ := r.freeze i
    obtain ⟨B2, M2, x2, y2, r2⟩ := Rel.freezeAll is r1
    refine ⟨B2, M2, x1.trans x2, fun b u h => ?_, r2⟩
    rcases y1 b u h with h | h
    · exact y2 b u h
    · exact .inr (x2 b u h)
/-- lists that were lent out come back, if nothing holds them -/
theorem lent_se {Γ : Gam} {e : Expr} {i : IE} (is : List Nat) (h : SE Γ e i) : SE Γ e (.lent is i) := fun X p o => PE_weak (h X p o) fun σ H Q q => by
  obtain ⟨st, B, M, F, env, d, st', r, he, kk⟩ := q
  obtain ⟨B1, M1, x1, y1, r1⟩ := r.freezeAll is
  unfold ev at he
  split at he
  · rename_i y st1 e1
    split at he
    · rename_i hf
      cases he
      refine ⟨st, B1, M1, F, _, d, st', r1, e1, fun v B' H' x r' pv => ?_⟩
      have x' : Ex B (fun b => match M b with | some _ => none | none => B' b) := fun b u hb => by
        have hm : M b = none := by
          cases hm : M b with
          | none => rfl
          | some w =>
            rw [(r.md b w hm).1] at hb
            cases hb
        show (match M b with | some _ => none | none => B' b) = _
        rw [hm]
        exact x b u (x1 b u hb)
      have le : ∀ b u, (match M b with | some _ => none | none => B' b) = some u → B' b = some u := fun b u hb => by
        cases hm : M b with
        | none =>
          rw [hm] at hb
          exact hb
        | some w =>
          rw [hm] at hb
          cases hb
      refine kk v _ H' x' ?_ ?_
      · refine ⟨⟨fun b u hb => r'.bs.b b u (le b u hb), r'.bs.f, fun b u hb => ?_, r'.bs.pf, ?_, r'.bs.pl.1, ?_⟩, fun b u hb => ?_, fun b u hb => ⟨?_, (r.md b u hb).2⟩, r.en.mono x'⟩
        · show (match M b with | some _ => none | none => B' b) = none
          have := r'.bs.d b u hb
          cases M b with
          | none => exact this
          | some w => rfl
        · show (match M p with | some _ => none | none => B' p) = none
          have := r'.bs.pb
          cases M p with
          | none => exact this
          | some w => rfl
        · have hq : M p.q = none := by
            cases hm : M p.q with
            | none => rfl
            | some w =>
              have h1 := r.bs.pl.2
              rw [(r.md _ w hm).1] at h1
              cases h1
          show (match M p.q with | some _ => none | none => B' p.q) = _
          rw [hq]
          exact r'.bs.pl.2
        · rcases y1 b u hb with h1 | h1
          · exact r'.m b u h1
          · exact r'.bs.b b u (x b u h1)
        · show (match M b with | some _ => none | none => B' b) = none
          rw [hb]
      · cases d with
        | none => cases pv; exact .non
        | bool b => cases pv; exact .bl b
        | int i => cases pv; exact .int i
        | str s => cases pv; exact .str s
        | _ => exact absurd (show false = true from hf) (by decide)
    · cases he
  · cases he
end
end Ip

set_option Elab.async false
set_option linter.all false
set_option maxRecDepth 100000
set_option maxHeartbeats 4000000
namespace Ip
open PySem L2
structure Oks (Γ : Gam) (X : Cx) (p : Pa) : Prop extends Okx Γ X p where
  own : PassesOwn (model X.prog X.w) X.A X.env X.xe
  stk : X.stack = X.env :: X.outer
  frm : X.env.frame = some X.env.locals
  fnx : ∀ x, X.fn x = true
  io : p.io.map Prod.fst = Γ.io
  fr : p.fr = Γ.fr
  fi : Γ.hot = false → ∀ f ∈ Γ.fi, ∃ fa fd ps k, FnOk X.prog X.w X.K X.mg X.base (L2N.CX X.prog X.w) k fa fd ps (spI Γ.K Γ.cl f) ∧ X.mg f = some (.ref fa) ∧ PySem.W.keepIn X.K (.ref fa) = true ∧ Binds X.K fd ps [] ∧ Room k X.A
  ff : Γ.hot = false → ∀ f ∈ Γ.ff, ∃ fa fd ps k, FnOk X.prog X.w X.K X.mg X.base (L2N.CX X.prog X.w) k fa fd ps (spR Γ.K Γ.cl f) ∧ X.mg f = some (.ref fa) ∧ PySem.W.keepIn X.K (.ref fa) = true ∧ Binds X.K fd ps [] ∧ Room k X.A
theorem Oks.noIo {Γ : Gam} {X : Cx} {p : Pa} (o : Oks Γ X p) {j : Nat} (h : (Γ.io == some j) = false) : ∀ c, p.io ≠ some (j, c) := fun c e => by
  have z := o.io
  rw [e] at z
  rw [← z] at h
  simp at h
/-- what is wanted behind a statement, by what it came to -/
def OutK (K : PySem.W.Frag) (p : Pa) (B F : Hp) (D : Ends) : Out → Prop
  | .nx env st => ∀ B' M σ H, Ex B B' → Rel K p st B' M F env σ H → D.nx σ H
  | .rt d st => ∀ v B' H, Ex B B' → Bs p st B' F H → RtV K p B' F H v d → D.rt v H
  | .bk env st => ∀ B' M σ H, Ex B B' → Rel K p st B' M F env σ H → D.bk σ H
  | .ct env st => ∀ B' M σ H, Ex B B' → Rel K p st B' M F env σ H → D.ct σ H
theorem OutK.mono {K : PySem.W.Frag} {p : Pa} {B B' F : Hp} {D : Ends} (x : Ex B B') : ∀ {o : Out}, OutK K p B F D o → OutK K p B' F D o
  | .nx _ _, h => fun B2 M σ H x2 r => h B2 M σ H (x.trans x2) r
  | .rt _ _, h => fun v B2 H x2 r pv => h v B2 H (x.trans x2) r pv
  | .bk _ _, h => fun B2 M σ H x2 r => h B2 M σ H (x.trans x2) r
  | .ct _ _, h => fun B2 M σ H x2 r => h B2 M σ H (x.trans x2) r
def TS1 (K : PySem.W.Frag) (cl : Cl) (p : Pa) (s : IS) : TS := fun D σ H => ∃ st B M F env o, Rel K p st B M F env σ H ∧ evS cl s env st = some o ∧ OutK K p B F D o
def TSs (K : PySem.W.Frag) (cl : Cl) (p : Pa) (s : ISs) : TS := fun D σ H => ∃ st B M F env o, Rel K p st B M F env σ H ∧ evSs cl s env st = some o ∧ OutK K p B F D o
def SS (Γ : Gam) (s : Stmt) (i : IS) : Prop := ∀ X p, Oks Γ X p → PS X s (TS1 Γ.K Γ.cl p i)
def SSs (Γ : Gam) (s : List Stmt) (i : ISs) : Prop := ∀ X p, Oks Γ X p → PSs X s (TSs Γ.K Γ.cl p i)
section
variable {Γ : Gam} {e a b c : Expr} {es rest : List Expr} {ia ib ic i : IE} {ies : IEs} {pos p0 p1 p2 : Pos} {x : Str} {s : Stmt} {ss : List Stmt} {is : IS} {iss : ISs}
theorem sss_nil : SSs Γ [] .nil := fun X p o => PSs_weak pss_nil fun D σ H q => by
  obtain ⟨st, B, M, F, env, out, r, he, k⟩ := q
  unfold evSs at he
  cases he
  exact k B M σ H (Ex.refl B) r
theorem sss_cons (h : SS Γ s is) (hr : SSs Γ ss iss) : SSs Γ (s :: ss) (.cons is iss) := fun X p o => PSs_weak (pss_cons (h X p o) (hr X p o)) fun D σ H q => by
  obtain ⟨st, B, M, F, env, out, r, he, k⟩ := q
  unfold evSs at he
  split at he
  · rename_i env1 st1 e1
    exact ⟨st, B, M, F, env, _, r, e1, fun B' M' σ' H' x r' => ⟨st1, B', M', F, env1, out, r', he, k.mono x⟩⟩
  · rename_i o1 hn e1
    cases he
    refine ⟨st, B, M, F, env, _, r, e1, ?_⟩
    cases out with
    | nx env1 st1 => exact (hn env1 st1 rfl).elim
    | rt d st1 => exact k
    | bk env1 st1 => exact k
    | ct env1 st1 => exact k
  · cases he
theorem ss_set (j : Nat) (h : SE Γ e i) (hN : Γ.N[j]? = some x := by rfl) (hl : Loc Γ.sc x := by first | exact Or.inl rfl | exact Or.inr rfl) (hs : ∀ env, swapsWith e (some (.Name x p0)) pos.line env = pure false := by intro _; rfl) : SS Γ (.Assign [.Name x p0] e pos) (.set j i) := fun X p o =>
  PS_weak (ps_set (i := j) (by rw [o.N]; exact o.nd) (by rw [o.N]; exact hN) (by rw [o.sc]; exact hl) (h X p o.toOkx) (hs _) (.inl (o.fnx x))) fun D σ H q => by
    obtain ⟨st, B, M, F, env, out, r, he, k⟩ := q
    unfold evS at he
    split at he
    · rename_i d st1 e1
      cases he
      exact ⟨st, B, M, F, env, d, st1, r, e1, fun v B' H' x r' pv => k B' M _ H' x (r'.set pv j)⟩
    · cases he
theorem ss_own (j : Nat) (h : SF Γ e i) (hio : (Γ.io == some j) = false := by rfl) (hN : Γ.N[j]? = some x := by rfl) (hl : Loc Γ.sc x := by first | exact Or.inl rfl | exact Or.inr rfl) (hs : ∀ env, swapsWith e (some (.Name x p0)) pos.line env = pure false := by intro _; rfl) : SS Γ (.Assign [.Name x p0] e pos) (.own j i) := fun X p o =>
  PS_weak (ps_set (i := j) (by rw [o.N]; exact o.nd) (by rw [o.N]; exact hN) (by rw [o.sc]; exact hl) (h X p o.toOkx) (hs _) (.inl (o.fnx x))) fun D σ H q => by
    obtain ⟨st, B, M, F, env, out, r, he, k⟩ := q
    unfold evS at he
    split at he
    · rename_i ds st1 e1
      cases he
      exact ⟨st, B, M, F, env, ds, st1, r, e1, fun a xs B' H' x h1 h2 h3 h4 h5 h6 r' => k B' _ _ H' x (r'.setOw ⟨h1, h2, h3, h4⟩ h5 h6 j (o.noIo hio))⟩
    · cases he
/-- x = [.. for ..]: the same, by the comprehension's own rule for a name -/
theorem ss_lcO (j : Nat) {elt iter : Expr} {ifs : List Expr} {scope : Scope} {y : Str} {px : Pos} {it : IT} {cs : IEs} {ie : IE} (n : Nat) (hi : SI Γ iter it) (hc : STs (Γ.blk scope) ifs cs) (he : SE (Γ.blk scope) elt ie) (hh : Γ.hot = false := by rfl)
    (hN : Γ.N[j]? = some x := by rfl) (hlv : Γ.sc.names.lookup x = some .local := by rfl) (hb : blkC Γ.N Γ.sc scope [(y, n)] = true := by rfl) (hj : Γ.N[n]? = some y := by rfl) (hlx : (relS scope Γ.sc).names.lookup y = some .local := by rfl)
    (hk : Γ.sc.kind = .function := by rfl) (hln : (p0.line == p1.line) = true := by rfl) (hany : (scope.names.any fun (n, k) => n == x && (k == .local || k == .cell)) = false := by rfl)
    (hs : ∀ env y, foldedSetIterable iter env y = pure y := by intro _ _; rfl) (hio : (Γ.io == some j) = false := by rfl) : SS Γ (.Assign [.Name x p0] (.ListComp elt [⟨.Name y px, iter, ifs, 0⟩] scope p1) pos) (.own j (.lc n it cs ie)) := fun X p o =>
  PS_weak (ps_setLc (i := j) (own := [(y, n)]) (g := gName n) (tt := Ts Γ.K Γ.cl p cs) (te := Tx Γ.K Γ.cl p ie) (o.calm hh) (by rw [o.N]; exact o.nd) (by rw [o.N]; exact hN) (by rw [o.sc]; exact hlv)
    (sw_true (by rw [o.sc]; exact hk) (by rw [o.sc]; exact hlv) hln hany) (hi X p _ o.toOkx) (blkOk_by (by rw [o.N, o.sc]; exact hb))
    (fun s H C cl fp => pg_name (show X.N.Nodup by rw [o.N]; exact o.nd) (show X.N[n]? = some y by rw [o.N]; exact hj) (show Loc _ y from .inl (by rw [(o.toOkx.blk hh scope s H C cl fp).sc]; exact hlx)) (.inr (by rw [(o.toOkx.blk hh scope s H C cl fp).sc]; exact hlx)))
    (fun s H C cl fp => hc _ p (o.toOkx.blk hh scope s H C cl fp)) (fun s H C cl fp => he _ p (o.toOkx.blk hh scope s H C cl fp)) (hs _)) fun D σ H q => by
    obtain ⟨st, B, M, F, env, out, r, he, k⟩ := q
    unfold evS at he
    split at he
    · rename_i ds st1 e1
      cases he
      exact lc_read ⟨st, B, M, F, env, ds, st1, r, e1, fun a xs B' H' x h1 h2 h3 h4 h5 h6 r' => k B' _ _ H' x (r'.setOw ⟨h1, h2, h3, h4⟩ h5 h6 j (o.noIo hio))⟩
    · cases he
theorem ss_lc (j : Nat) {elt iter : Expr} {ifs : List Expr} {scope : Scope} {y : Str} {px : Pos} {it : IT} {cs : IEs} {ie : IE} (n : Nat) (hi : SI Γ iter it) (hc : STs (Γ.blk scope) ifs cs) (he : SE (Γ.blk scope) elt ie) (hh : Γ.hot = false := by rfl)
    (hN : Γ.N[j]? = some x := by rfl) (hlv : Γ.sc.names.lookup x = some .local := by rfl) (hb : blkC Γ.N Γ.sc scope [(y, n)] = true := by rfl) (hj : Γ.N[n]? = some y := by rfl) (hlx : (relS scope Γ.sc).names.lookup y = some .local := by rfl)
    (hk : Γ.sc.kind = .function := by rfl) (hln : (p0.line == p1.line) = true := by rfl) (hany : (scope.names.any fun (n, k) => n == x && (k == .local || k == .cell)) = false := by rfl)
    (hs : ∀ env y, foldedSetIterable iter env y = pure y := by intro _ _; rfl) : SS Γ (.Assign [.Name x p0] (.ListComp elt [⟨.Name y px, iter, ifs, 0⟩] scope p1) pos) (.set j (.lc n it cs ie)) := fun X p o =>
  PS_weak (ps_setLc (i := j) (own := [(y, n)]) (g := gName n) (tt := Ts Γ.K Γ.cl p cs) (te := Tx Γ.K Γ.cl p ie) (o.calm hh) (by rw [o.N]; exact o.nd) (by rw [o.N]; exact hN) (by rw [o.sc]; exact hlv)
    (sw_true (by rw [o.sc]; exact hk) (by rw [o.sc]; exact hlv) hln hany) (hi X p _ o.toOkx) (blkOk_by (by rw [o.N, o.sc]; exact hb))
    (fun s H C cl fp => pg_name (show X.N.Nodup by rw [o.N]; exact o.nd) (show X.N[n]? = some y by rw [o.N]; exact hj) (show Loc _ y from .inl (by rw [(o.toOkx.blk hh scope s H C cl fp).sc]; exact hlx)) (.inr (by rw [(o.toOkx.blk hh scope s H C cl fp).sc]; exact hlx)))
    (fun s H C cl fp => hc _ p (o.toOkx.blk hh scope s H C cl fp)) (fun s H C cl fp => he _ p (o.toOkx.blk hh scope s H C cl fp)) (hs _)) fun D σ H q => by
    obtain ⟨st, B, M, F, env, out, r, he, k⟩ := q
    unfold evS at he
    split at he
    · rename_i d st1 e1
      cases he
      obtain ⟨_, _, ys, _, _, _, e2⟩ := ev_lc e1
      subst e2
      exact lc_read ⟨st, B, M, F, env, ys, st1, r, e1, fun a xs B' H' x h1 h2 h3 h4 h5 h6 r' => k _ M _ H' (x.trans (Ex.new h1)) ((r'.know h5 h1 h2 h3 h4).set (.lst upd_same (h6.mono (Ex.new h1))) j)⟩
    · cases he
theorem ss_app (n : Nat) (h : SE Γ e i) (hN : Γ.N[n]? = some x := by rfl) (hv : Vis Γ.sc x := by first | exact Or.inl rfl | exact Or.inr (Or.inl rfl) | exact Or.inr (Or.inr rfl)) (hd : (x == ("__debug__" : Str)) = false := by decide) (hcd : (x == ("__classdict__" : Str)) = false := by decide)
    (hbase : ∀ env, attributeBase (.Name x p0) "append" env (eval (.Name x p0) env) = eval (.Name x p0) env := by intro _; rfl)
    (hfew : ∀ env, ((backTo p2 (starEach [e] env)).all (fun x => !x.1) && (backToKw p2 (keywordEach [] env)).all (fun x => x.1.isSome) && decide (([e] : List Expr).length + ([] : List Keyword).length + (if ([] : List Keyword).isEmpty then 0 else 1) < 30)) = true := by intro _; rfl)
    (hline : (p1.endLine == p2.line) = true := by rfl) (hs : ∀ env, starEach [e] env = (false, eval e env) :: starEach [] env := by intro _; rfl) (hsw : ∀ env, swapsWith (.Call (.Attribute (.Name x p0) "append" p1) [e] [] p2) none pos.line env = pure false := by intro _; rfl) :
    SS Γ (.Expr (.Call (.Attribute (.Name x p0) "append" p1) [e] [] p2) pos) (.app n i) := fun X p o =>
  PS_weak (ps_expr (pe_bm PySem.F.plainAttrs_list PySem.F.slot_list_append PySem.F.type_list_append mt_append (pe_var (i := n) (by rw [o.N]; exact hN) (by rw [o.sc]; exact hv) hd hcd) ((sa_cons h sa_nil hs) X p o.toOkx) (hbase _) (hfew _) hline (hs _) rfl) (hsw _)) fun D σ H q => by
    obtain ⟨st, B, M, F, env, out, r, he, k⟩ := q
    unfold evS at he
    split at he
    · rename_i d st1 e1
      split at he
      · rename_i ds e2
        obtain ⟨hl, he⟩ := ite_some he
        subst he
        obtain ⟨w, h1, h2⟩ := r.en.at_ n _ e2
        cases w with
        | none => exact h2.elim
        | some v =>
          cases v with
          | ref a =>
            obtain ⟨xs, h3, h4⟩ := h2
            refine ⟨_, h1, .inl ⟨rfl, xs, Or.inl (Or.inl (r.m _ _ h3))⟩, st, B, M, F, env, [d], st1, r, by unfold ea; rw [e1]; rfl, fun vs B' H' x r' pv => ?_⟩
            match vs, pv with
            | [v], .cons pv .nil =>
              refine ⟨a, xs, v, rfl, rfl, r'.m _ _ h3, most_lt (by rw [h4.length]; exact hl), ?_⟩
              exact k B' _ σ _ x (r'.grow e2 h1 h3 ((h4.mono x).append (.one pv)))
          | _ => exact h2.elim
      · cases he
    · cases he
theorem ss_ext (n : Nat) (h : SE Γ e i) (hN : Γ.N[n]? = some x := by rfl) (hv : Vis Γ.sc x := by first | exact Or.inl rfl | exact Or.inr (Or.inl rfl) | exact Or.inr (Or.inr rfl)) (hd : (x == ("__debug__" : Str)) = false := by decide) (hcd : (x == ("__classdict__" : Str)) = false := by decide)
    (hbase : ∀ env, attributeBase (.Name x p0) "extend" env (eval (.Name x p0) env) = eval (.Name x p0) env := by intro _; rfl)
    (hfew : ∀ env, ((backTo p2 (starEach [e] env)).all (fun x => !x.1) && (backToKw p2 (keywordEach [] env)).all (fun x => x.1.isSome) && decide (([e] : List Expr).length + ([] : List Keyword).length + (if ([] : List Keyword).isEmpty then 0 else 1) < 30)) = true := by intro _; rfl)
    (hline : (p1.endLine == p2.line) = true := by rfl) (hs : ∀ env, starEach [e] env = (false, eval e env) :: starEach [] env := by intro _; rfl) (hsw : ∀ env, swapsWith (.Call (.Attribute (.Name x p0) "extend" p1) [e] [] p2) none pos.line env = pure false := by intro _; rfl) :
    SS Γ (.Expr (.Call (.Attribute (.Name x p0) "extend" p1) [e] [] p2) pos) (.ext n i) := fun X p o =>
  PS_weak (ps_expr (pe_bm PySem.F.plainAttrs_list PySem.F.slot_list_extend PySem.F.type_list_extend mt_extend (pe_var (i := n) (by rw [o.N]; exact hN) (by rw [o.sc]; exact hv) hd hcd) ((sa_cons h sa_nil hs) X p o.toOkx) (hbase _) (hfew _) hline (hs _) rfl) (hsw _)) fun D σ H q => by
    obtain ⟨st, B, M, F, env, out, r, he, k⟩ := q
    unfold evS at he
    split at he
    · rename_i es st1 e1
      split at he
      · rename_i ds e2
        obtain ⟨hl, he⟩ := ite_some he
        subst he
        obtain ⟨w, h1, h2⟩ := r.en.at_ n _ e2
        cases w with
        | none => exact h2.elim
        | some v =>
          cases v with
          | ref a =>
            obtain ⟨xs, h3, h4⟩ := h2
            refine ⟨_, h1, .inl ⟨rfl, xs, Or.inl (Or.inl (r.m _ _ h3))⟩, st, B, M, F, env, [.list es], st1, r, by unfold ea; rw [e1]; rfl, fun vs B' H' x r' pv => ?_⟩
            match vs, pv with
            | [_], .cons (@Rp.lst _ _ b zs _ hz rz) .nil =>
              refine ⟨a, b, xs, zs, rfl, rfl, r'.m _ _ h3, r'.bs.b _ _ hz, most_line (by rw [h4.length, rz.length]; exact hl), ?_⟩
              exact k B' _ σ _ x (r'.grow e2 h1 h3 ((h4.mono x).append rz))
          | _ => exact h2.elim
      · cases he
    · cases he
theorem ss_iff {sa sb : List Stmt} {xa xb : ISs} (hc : ST Γ c ic) (ha : SSs Γ sa xa) (hb : SSs Γ sb xb) : SS Γ (.If c sa sb pos) (.iff ic xa xb) := fun X p o => PS_weak (ps_if (hc X p o.toOkx) (ha X p o) (hb X p o)) fun D σ H q => by
  obtain ⟨st, B, M, F, env, out, r, he, k⟩ := q
  unfold evS at he
  split at he
  · rename_i st1 e1
    exact ⟨st, B, M, F, env, true, st1, r, e1, fun B' H' x r' => iteT ⟨st1, B', M, F, env, out, r', he, k.mono x⟩⟩
  · rename_i st1 e1
    exact ⟨st, B, M, F, env, false, st1, r, e1, fun B' H' x r' => iteF ⟨st1, B', M, F, env, out, r', he, k.mono x⟩⟩
  · cases he
theorem ss_ret (h : SE Γ e i) (hfr : Γ.fr = false := by rfl) : SS Γ (.Return (some e) pos) (.ret i) := fun X p o => PS_weak (ps_ret (h X p o.toOkx)) fun D σ H q => by
  obtain ⟨st, B, M, F, env, out, r, he, k⟩ := q
  unfold evS at he
  split at he
  · rename_i d st1 e1
    cases he
    exact ⟨st, B, M, F, env, d, st1, r, e1, fun v B' H' x r' pv => k v B' H' x r'.bs (by rw [RtV.f (o.fr.trans hfr)]; exact pv)⟩
  · cases he
/-- what is returned is a new list of the def's own -/
theorem ss_retf (h : SF Γ e i) (hfr : Γ.fr = true := by rfl) : SS Γ (.Return (some e) pos) (.retf i) := fun X p o => PS_weak (ps_ret (h X p o.toOkx)) fun D σ H q => by
  obtain ⟨st, B, M, F, env, out, r, he, k⟩ := q
  unfold evS at he
  split at he
  · rename_i ds st1 e1
    cases he
    exact ⟨st, B, M, F, env, ds, st1, r, e1, fun a xs B' H' x h1 h2 h3 h4 h5 h6 r' => k _ B' H' x r'.bs (by rw [RtV.t (o.fr.trans hfr)]; exact .inr ⟨a, xs, ds, rfl, rfl, h5, h6, h1, h3, h4⟩)⟩
  · cases he
/-- None is -/
theorem ss_retn (h : SE Γ e (.cst .non)) (hfr : Γ.fr = true := by rfl) : SS Γ (.Return (some e) pos) (.ret (.cst .non)) := fun X p o => PS_weak (ps_ret (h X p o.toOkx)) fun D σ H q => by
  obtain ⟨st, B, M, F, env, out, r, he, k⟩ := q
  unfold evS at he
  split at he
  · rename_i d st1 e1
    cases he
    unfold ev at e1
    cases e1
    refine ⟨st, B, M, F, env, .none, st, r, rfl, fun v B' H' x r' pv => k v B' H' x r'.bs ?_⟩
    rw [RtV.t (o.fr.trans hfr)]
    cases pv
    exact .inl ⟨rfl, rfl⟩
  · cases he
theorem ss_retN (hfr : Γ.fr = false := by rfl) : SS Γ (.Return none pos) .retN := fun X p o => PS_weak ps_retN fun D σ H q => by
  obtain ⟨st, B, M, F, env, out, r, he, k⟩ := q
  unfold evS at he
  cases he
  exact k .non B H (Ex.refl B) r.bs (by rw [RtV.f (o.fr.trans hfr)]; exact .non)
theorem ss_drop (h : SE Γ e i) (hs : ∀ env, swapsWith e none pos.line env = pure false := by intro _; rfl) : SS Γ (.Expr e pos) (.drop i) := fun X p o => PS_weak (ps_expr (h X p o.toOkx) (hs _)) fun D σ H q => by
  obtain ⟨st, B, M, F, env, out, r, he, k⟩ := q
  unfold evS at he
  split at he
  · rename_i d st1 e1
    cases he
    exact ⟨st, B, M, F, env, d, st1, r, e1, fun v B' H' x r' pv => k B' M σ H' x r'⟩
  · cases he
theorem ss_brk : SS Γ (.Break pos) .brk := fun X p o => PS_weak ps_break fun D σ H q => by
  obtain ⟨st, B, M, F, env, out, r, he, k⟩ := q
  unfold evS at he
  cases he
  exact k B M σ H (Ex.refl B) r
theorem ss_cnt : SS Γ (.Continue pos) .cnt := fun X p o => PS_weak ps_continue fun D σ H q => by
  obtain ⟨st, B, M, F, env, out, r, he, k⟩ := q
  unfold evS at he
  cases he
  exact k B M σ H (Ex.refl B) r
theorem ss_frz (js : List Nat) (h : SS Γ s is) : SS Γ s (.frz js is) := fun X p o => PS_weak (h X p o) fun D σ H q => by
  obtain ⟨st, B, M, F, env, out, r, he, k⟩ := q
  unfold evS at he
  obtain ⟨B', M', x, _, r'⟩ := r.freezeAll js
  exact ⟨st, B', M', F, _, out, r', he, k.mono x⟩
/-! ### targets -/
def Tgt (K : PySem.W.Frag) (p : Pa) (j : Sg) : TG := fun v σ H Q => ∃ st B M F env d env', Rel K p st B M F env σ H ∧ Rp K B v d ∧ sgD j d env = some env' ∧ ∀ σ', Rel K p st B M F env' σ' H → Q σ' H
def SGt (Γ : Gam) (e : Expr) (j : Sg) : Prop := ∀ X p, Oks Γ X p → PG X e (Tgt Γ.K p j)
theorem PG_weak {X : Cx} {t t' : TG} (h : PG X e t) (w : ∀ v σ H Q, t' v σ H Q → t v σ H Q) : PG X e t' := ⟨fun pins s σ H v u Q I r q => h.run pins s σ H v u Q I r (w v σ H Q q)⟩
theorem PG_or {X : Cx} {t t' : TG} (h : PG X e t) (h' : PG X e t') : PG X e (fun v σ H Q => t v σ H Q ∨ t' v σ H Q) := ⟨fun pins s σ H v u Q I r q => by
  rcases q with q | q
  · exact h.run pins s σ H v u Q I r q
  · exact h'.run pins s σ H v u Q I r q⟩
theorem tg_one (j : Nat) (hN : Γ.N[j]? = some x := by rfl) (hl : Loc Γ.sc x := by first | exact Or.inl rfl | exact Or.inr rfl) : SGt Γ (.Name x p0) (.one j) := fun X p o =>
  PG_weak (pg_name (i := j) (by rw [o.N]; exact o.nd) (by rw [o.N]; exact hN) (by rw [o.sc]; exact hl) (.inl (o.fnx x))) fun v σ H Q q => by
    obtain ⟨st, B, M, F, env, d, env', r, pv, he, k⟩ := q
    cases he
    exact k _ (r.set pv j)
def gMany : List Nat → TGs
  | [] => gNil
  | j :: js => gCons (gName j) (gMany js)
def SGs (Γ : Gam) (es : List Expr) (js : List Nat) : Prop := ∀ X p, Oks Γ X p → PGs X es (gMany js)
theorem sgs_nil : SGs Γ [] [] := fun X p o => pgs_nil
theorem sgs_cons {js : List Nat} (j : Nat) (hr : SGs Γ es js) (hN : Γ.N[j]? = some x := by rfl) (hl : Loc Γ.sc x := by first | exact Or.inl rfl | exact Or.inr rfl)
    (hs : ∀ env, (assignEach (.Name x p0 :: es) env).map (·.2) = assign (.Name x p0) env :: (assignEach es env).map (·.2) := by intro _; rfl) : SGs Γ (.Name x p0 :: es) (j :: js) := fun X p o =>
  pgs_cons (pg_name (i := j) (by rw [o.N]; exact o.nd) (by rw [o.N]; exact hN) (by rw [o.sc]; exact hl) (.inl (o.fnx x))) (hr X p o) (hs _)
theorem many_go {K : PySem.W.Frag} {p : Pa} {st : Pl} {B M F : Hp} {H : Hp} : ∀ {js : List Nat} {ds : List D} {vs : List V} {env env' : List Sl} {σ : L2.St} {Q : L2.St → Hp → Prop}, Rel K p st B M F env σ H → RpA K B vs ds → setMany js ds env = some env' → (∀ σ', Rel K p st B M F env' σ' H → Q σ' H) → gMany js vs σ H Q
  | [], [], _, env, env', σ, Q, r, .nil, he, k => by
    cases he
    exact ⟨rfl, k σ r⟩
  | j :: js, d :: ds, _, env, env', σ, Q, r, .cons pv rv, he, k => ⟨_, _, rfl, many_go (r.set pv j) rv he k⟩
  | [], _ :: _, _, _, _, _, _, _, _, he, _ => by cases he
  | _ :: _, [], _, _, _, _, _, _, _, he, _ => by cases he
theorem setMany_len : ∀ {js : List Nat} {ds : List D} {env env' : List Sl}, setMany js ds env = some env' → ds.length = js.length
  | [], [], _, _, _ => rfl
  | j :: js, d :: ds, env, env', h => congrArg Nat.succ (setMany_len (js := js) (ds := ds) h)
  | [], _ :: _, _, _, h => by cases h
  | _ :: _, [], _, _, h => by cases h
theorem tg_many {js : List Nat} {k : Nat} (h : SGs Γ es js) (hh : Γ.hot = false := by rfl) (hn : ∀ env, (assignEach es env).length = js.length := by intro _; rfl) (hst : ∀ env, (assignEach es env).findIdx? (·.1) = none := by intro _; rfl) : SGt Γ (.Tuple es k pos) (.many js) := fun X p o =>
  PG_weak (PG_or (pg_tup (n := js.length) (o.calm hh) (h X p o) (hn _) (hst _)) (pg_unl (n := js.length) (o.calm hh) (h X p o) (hn _) (hst _))) fun v σ H Q q => by
    obtain ⟨st, B, M, F, env, d, env', r, pv, he, kk⟩ := q
    rw [o.K]
    have he' : (match itD d with
      | some ds => setMany js ds env
      | none => none) = some env' := he
    cases e1 : itD d with
    | none =>
      rw [e1] at he'
      cases he'
    | some ds =>
      rw [e1] at he'
      rcases itD_lst e1 with rfl | rfl
      · cases pv with
        | @lst a xs _ hx rx => exact .inr ⟨a, xs, rfl, Or.inl (Or.inl (r.bs.b _ _ hx)), by rw [rx.length, setMany_len he'], many_go r rx he' kk⟩
      · cases pv with
        | @tup a xs _ hx rx => exact .inl ⟨a, xs, rfl, sqt_mono r.bs.b hx, by rw [rx.length, setMany_len he'], many_go r rx he' kk⟩
theorem ss_unp {js : List Nat} {tg : Expr} (h : SE Γ e i) (ht : SGt Γ tg (.many js)) (hs : ∀ env, swapsWithSole [tg] e pos.line env = pure false := by intro _; rfl) (hw : ∀ env, swappedStores [tg] e env = pure none := by intro _; rfl)
    (h1 : ∀ env, (assignEach [tg] env).map (·.2) = [assign tg env] := by intro _; rfl) : SS Γ (.Assign [tg] e pos) (.unp js i) := fun X p o => PS_weak (ps_asg (h X p o.toOkx) (ht X p o) (hs _) (hw _) (h1 _)) fun D σ H q => by
  obtain ⟨st, B, M, F, env, out, r, he, k⟩ := q
  unfold evS at he
  split at he
  · rename_i d st1 e1
    obtain ⟨env1, e2, e3⟩ := Option.map_eq_some_iff.mp he
    subst e3
    exact ⟨st, B, M, F, env, d, st1, r, e1, fun v B' H' x r' pv => ⟨st1, B', M, F, env, d, env1, r', pv, e2, fun σ' r'' => k B' M σ' H' x r''⟩⟩
  · cases he
theorem ss_forg {tg : Expr} {j : Sg} {it : IT} (hi : SIg Γ tg e it) (ht : SGt Γ tg j) (hb : SSs Γ ss iss) (hh : Γ.hot = false := by rfl) (hs : ∀ env y, foldedSetIterable e env y = pure y := by intro _ _; rfl) : SS Γ (.For tg e ss [] pos) (.forr j it iss) := fun X p o =>
  PS_weak (ps_for o.own (o.calm hh) (hi X p o.toOkx) (ht X p o) (hb X p o) (hs _)) fun D σ H q => by
    obtain ⟨st, B, M, F, env, out, r, he, k⟩ := q
    unfold evS at he
    split at he
    · rename_i ds st1 e1
      refine walk_for r e1 (fun B1 n B' σ' H' => Ex B1 B' ∧ Ex B' H' ∧ Ex B B' ∧ ∃ sti envi Mi, Rel Γ.K p sti B' Mi F envi σ' H' ∧ forG (fun d env st => match sgD j d env with
        | some env1 => evSs Γ.cl iss env1 st
        | none => none) (ds.drop n) envi sti = some out) (fun B1 H1 x1 r1 => ⟨Ex.refl B1, r1.bs.b, x1, st1, env, M, r1, he⟩) (fun B1 n B' σ' H' q => ⟨q.1, q.2.1⟩) (fun B1 n B' σ' H' q o z hq => ?_) (fun B1 n d v B' σ' H' x1 hd pv q => ?_) (fun B1 B' σ' H' q => ?_)
      · obtain ⟨x2, x3, x4, sti, envi, Mi, r2, e4⟩ := z
        have nb : B' q = none := x3.free hq
        exact ⟨x2.trans (Ex.new nb), x3.up, x4.trans (Ex.new nb), sti, envi, Mi, r2.new hq, e4⟩
      · obtain ⟨x2, x3, x4, sti, envi, Mi, r2, e4⟩ := q
        have hdr : ds.drop n = d :: ds.drop (n + 1) := List.drop_eq_getElem_cons (by
            exact (List.getElem?_eq_some_iff.mp hd).1) |>.trans (by rw [(List.getElem?_eq_some_iff.mp hd).2])
        rw [hdr] at e4
        unfold forG at e4
        cases e5 : sgD j d envi with
        | none =>
          simp only [e5] at e4
          cases e4
        | some env1 =>
          simp only [e5] at e4
          refine ⟨sti, B', Mi, F, envi, d, env1, r2, pv, e5, fun σ2 r3 => ?_⟩
          cases e6 : evSs Γ.cl iss env1 sti with
          | none =>
            rw [e6] at e4
            cases e4
          | some o1 =>
            rw [e6] at e4
            refine ⟨sti, B', Mi, F, env1, o1, r3, e6, ?_⟩
            cases o1 with
            | nx ev2 st2 => exact fun B3 M3 σ3 H3 x5 r5 => ⟨B3, x2.trans x5, r5.bs.b, x4.trans x5, st2, ev2, M3, r5, e4⟩
            | ct ev2 st2 => exact fun B3 M3 σ3 H3 x5 r5 => ⟨B3, x2.trans x5, r5.bs.b, x4.trans x5, st2, ev2, M3, r5, e4⟩
            | bk ev2 st2 =>
              cases e4
              exact fun B3 M3 σ3 H3 x5 r5 => k B3 M3 σ3 H3 (x4.trans x5) r5
            | rt d2 st2 =>
              cases e4
              exact fun v3 B3 H3 x5 r5 p5 => k v3 B3 H3 (x4.trans x5) r5 p5
      · obtain ⟨x2, x3, x4, sti, envi, Mi, r2, e4⟩ := q
        rw [List.drop_length] at e4
        unfold forG at e4
        cases e4
        exact k B' Mi σ' H' x4 r2
    · cases he
end
theorem ss_for {Γ : Gam} {e : Expr} {ss : List Stmt} {iss : ISs} {pos : Pos} {tg : Expr} {j : Sg} {it : IT} (hi : SI Γ e it) (ht : SGt Γ tg j) (hb : SSs Γ ss iss) (hh : Γ.hot = false := by rfl) (hs : ∀ env y, foldedSetIterable e env y = pure y := by intro _ _; rfl) : SS Γ (.For tg e ss [] pos) (.forr j it iss) := ss_forg hi.g ht hb hh hs
/-! ### a def -/
theorem ArA.length {K : PySem.W.Frag} {p : Pa} {B : Hp} : ∀ {vs : List V} {ds : List (Option D)}, ArA K p B vs ds → vs.length = ds.length
  | _, _, .nil => rfl
  | _, _, .cons _ r => congrArg Nat.succ (ArA.length r)
  | _, _, .pool r => congrArg Nat.succ (ArA.length r)
theorem ArA.get {K : PySem.W.Frag} {p : Pa} {B : Hp} : ∀ {vs : List V} {ds : List (Option D)} {i : Nat} {d : Option D}, ArA K p B vs ds → ds[i]? = some d → ∃ v, vs[i]? = some v ∧ SlR K p B (fun _ => none) (slOf d) (some v)
  | _, _, _, _, .nil, e => by simp at e
  | _, _, 0, _, .cons h _, e => by
    simp at e
    subst e
    exact ⟨_, rfl, h⟩
  | _, _, 0, _, .pool _, e => by
    simp at e
    subst e
    exact ⟨_, rfl, rfl⟩
  | _, _, i + 1, d, .cons _ r, e => by
    obtain ⟨v, h1, h2⟩ := ArA.get (i := i) (d := d) r (by simpa using e)
    exact ⟨v, by simpa using h1, h2⟩
  | _, _, i + 1, d, .pool r, e => by
    obtain ⟨v, h1, h2⟩ := ArA.get (i := i) (d := d) r (by simpa using e)
    exact ⟨v, by simpa using h1, h2⟩
theorem rel_start {K : PySem.W.Frag} {p : Pa} {st : Pl} {B F H : Hp} {vs : List V} {as : List (Option D)} {N : List Str} (w : Bs p st B F H) (ha : ArA K p B vs as) : Rel K p st B (fun _ => none) F (as.map slOf ++ List.replicate (N.length - as.length) .no) (L2.start N vs) H where
  bs := w
  m := fun a o h => by cases h
  md := fun a o h => by cases h
  en := {
    len := by
      unfold L2.start
      simp [ha.length]
    at_ := fun i s hi => by
      unfold L2.start
      by_cases hl : i < as.length
      · rw [List.getElem?_append_left (by simpa using hl), List.getElem?_map] at hi
        obtain ⟨d, h1, h2⟩ := Option.map_eq_some_iff.mp hi
        subst h2
        obtain ⟨v, h3, h4⟩ := ha.get h1
        exact ⟨some v, by rw [List.getElem?_append_left (by simpa [ha.length] using hl), List.getElem?_map, h3]; rfl, h4⟩
      · rw [List.getElem?_append_right (by simpa using hl), List.getElem?_replicate] at hi
        split at hi
        · rename_i hlt
          cases hi
          refine ⟨none, ?_, True.intro⟩
          rw [List.getElem?_append_right (by simpa [ha.length] using hl), List.getElem?_replicate, if_pos (by simpa [ha.length] using hlt)]
        · cases hi
    ap := fun i j ds es a hi _ _ _ => by
      by_cases hl : i < as.length
      · rw [List.getElem?_append_left (by simpa using hl), List.getElem?_map] at hi
        obtain ⟨d, h1, h2⟩ := Option.map_eq_some_iff.mp hi
        cases d <;> cases h2
      · rw [List.getElem?_append_right (by simpa using hl), List.getElem?_replicate] at hi
        split at hi <;> cases hi
    io := fun i a ds _ hi => by
      by_cases hl : i < as.length
      · rw [List.getElem?_append_left (by simpa using hl), List.getElem?_map] at hi
        obtain ⟨d, h1, h2⟩ := Option.map_eq_some_iff.mp hi
        cases d <;> cases h2
      · rw [List.getElem?_append_right (by simpa using hl), List.getElem?_replicate] at hi
        split at hi <;> cases hi }
section
variable {P : Program} {w : World} {K : PySem.W.Frag} {mg : Str → Option Value} {base : Heap}
/-- an own error, where defs are told -/
structure ErrFo (P : Program) (w : World) (K : PySem.W.Frag) (mg : Str → Option Value) (base : Heap) (k : Nat) (x fld : Str) (C : Addr) : Prop where
  mgc : mg x = some (.ref C)
  oex : OexC K C
  def_ : ∃ fI fd j ps, j + 1 ≤ k ∧ PySem.W.findIn K (.ref C) "__init__" = some (some (.ref fI)) ∧ PySem.W.typeIn K (.ref fI) = some (.type "function") ∧ FnOk P w K mg base (L2N.CX P w) j fI fd ps (spE1 C fld) ∧ Binds K fd ps []
theorem ErrFo.at_ {P : Program} {w : World} {K : PySem.W.Frag} {mg : Str → Option Value} {base : Heap} {k : Nat} {x fld : Str} {C : Addr} {X : Cx} (e : ErrFo P w K mg base k x fld C) (hr : Room k X.A) (h1 : X.prog = P) (h2 : X.w = w) (h3 : X.K = K) (h4 : X.mg = mg) (h5 : X.base = base) : ErrAt X x fld C := by
  subst h1 h2 h3 h4 h5
  obtain ⟨fI, fd, j, ps, hj, a, b, c, d⟩ := e.def_
  exact ⟨e.mgc, e.oex, fI, fd, j, ps, a, b, c, hr.mono hj, d⟩
/-- a def that keeps what the table says of it -/
def Fo (P : Program) (w : World) (K : PySem.W.Frag) (mg : Str → Option Value) (base : Heap) (k : Nat) (cl : Cl) (f : Str) : Prop := ∃ fa fd ps, FnOk P w K mg base (L2N.CX P w) k fa fd ps (spF K cl f) ∧ mg f = some (.ref fa) ∧ PySem.W.keepIn K (.ref fa) = true ∧ Binds K fd ps []
def FoG (P : Program) (w : World) (K : PySem.W.Frag) (mg : Str → Option Value) (base : Heap) (k : Nat) (es : List (Str × Str)) (cl : Cl) (f : Str) : Prop := ∃ fa fd ps, FnOk P w K mg base (L2N.CX P w) k fa fd ps (spG mg es K cl f) ∧ mg f = some (.ref fa) ∧ PySem.W.keepIn K (.ref fa) = true ∧ Binds K fd ps []
def FoH (P : Program) (w : World) (K : PySem.W.Frag) (mg : Str → Option Value) (base : Heap) (k : Nat) (cl : Cl) (f : Str) : Prop := ∃ fa fd ps, L2H.FnH P w K mg base (L2N.CX P w) k fa fd ps (spF K cl (hotN f)) ∧ mg f = some (.ref fa) ∧ PySem.W.keepIn K (.ref fa) = true ∧ Binds K fd ps []
def FoL (P : Program) (w : World) (K : PySem.W.Frag) (mg : Str → Option Value) (base : Heap) (k : Nat) (cl : Cl) (f : Str) : Prop := ∃ fa fd ps j, j + 3 ≤ k ∧ GFn P w K mg base j fa fd ps (spL K cl f) ∧ mg f = some (.ref fa) ∧ PySem.W.keepIn K (.ref fa) = true ∧ Binds K fd ps [] ∧ ∀ as st d st', cl f as st = some (d, st') → ∃ ys, d = PyData.list ys
def FoI (P : Program) (w : World) (K : PySem.W.Frag) (mg : Str → Option Value) (base : Heap) (k : Nat) (cl : Cl) (f : Str) : Prop := ∃ fa fd ps, FnOk P w K mg base (L2N.CX P w) k fa fd ps (spI K cl f) ∧ mg f = some (.ref fa) ∧ PySem.W.keepIn K (.ref fa) = true ∧ Binds K fd ps []
def FoR (P : Program) (w : World) (K : PySem.W.Frag) (mg : Str → Option Value) (base : Heap) (k : Nat) (cl : Cl) (f : Str) : Prop := ∃ fa fd ps, FnOk P w K mg base (L2N.CX P w) k fa fd ps (spR K cl f) ∧ mg f = some (.ref fa) ∧ PySem.W.keepIn K (.ref fa) = true ∧ Binds K fd ps []
/-- what stands behind a def's body -/
structure Av (P : Program) (w : World) (K : PySem.W.Frag) (mg : Str → Option Value) (base : Heap) (k : Nat) (Γ : Gam) : Prop where
  fn : Γ.hot = false → ∀ g ∈ Γ.fs, Fo P w K mg base k Γ.cl g
  fnh : ∀ g ∈ Γ.hs, FoH P w K mg base k Γ.cl g
  bl : ∀ g ∈ Γ.bs, mg g = none
  xn : Γ.hot = false → ∀ g ∈ Γ.xs, FoG P w K mg base k Γ.es Γ.cl g
  er : Γ.hot = false → ∀ q ∈ Γ.es, ∃ C, ErrFo P w K mg base k q.1 q.2 C
  df : Γ.hot = false → ∀ q ∈ Γ.df, ∃ fa fd ps us, FnOk P w K mg base (L2N.CX P w) k fa fd ps (spG mg Γ.es K Γ.cl q.1) ∧ mg q.1 = some (.ref fa) ∧ PySem.W.keepIn K (.ref fa) = true ∧ Binds K fd ps us ∧ Vals (q.2.map Cst.v) us
  ef : ErrFacts Γ K mg
  gn : Γ.hot = false → ∀ g ∈ Γ.gn, FoL P w K mg base k Γ.cl g := by
    intro _ g hg
    cases hg
  fi : Γ.hot = false → ∀ g ∈ Γ.fi, FoI P w K mg base k Γ.cl g := by
    intro _ g hg
    cases hg
  ff : Γ.hot = false → ∀ g ∈ Γ.ff, FoR P w K mg base k Γ.cl g := by
    intro _ g hg
    cases hg
section
variable {N : List Str} {qual : Str} {scope : Scope} {f : Addr} {cdv : Value} {A : Around} {outer : List Env} {s : Shared} {H : Hp} {E : XK} {k : Nat} {Γ : Gam} {p : Pa}
theorem Av.oks (a : Av P w K mg base k Γ) (hh : Γ.hot = false) (hK : Γ.K = K) (hN : Γ.N = N) (nd : N.Nodup) (hsc : Γ.sc = scope) (hl : p.lk = noLk) (hio : p.io.map Prod.fst = Γ.io) (hfr : p.fr = Γ.fr) (hr : Room k (A.deeper (PyProof.Rows.envOfC qual scope s.heap.objs.size f cdv))) :
    Oks Γ (cxOf (L2N.CX P w) P w K mg base N qual scope f cdv A outer s H E) p where
  K := hK.symm
  N := hN.symm
  nd := by rw [hN]; exact nd
  sc := hsc.symm
  calm := fun _ => rfl
  hotc := fun z => by
    rw [hh] at z
    cases z
  units := by
    have h := hr.un
    show (A.deeper (PyProof.Rows.envOfC qual scope s.heap.objs.size f cdv)).units + 100 < cLine
    omega
  fn := fun z g hg => by
    obtain ⟨fa, fd, ps, F1, h1, h2, h3⟩ := a.fn z g hg
    rw [hK]
    exact ⟨fa, fd, ps, k, F1, h1, h2, h3, hr⟩
  fnh := fun g hg => by
    obtain ⟨fa, fd, ps, F1, h1, h2, h3⟩ := a.fnh g hg
    rw [hK]
    exact ⟨fa, fd, ps, k, F1, h1, h2, h3, L2H.roomH_of hr⟩
  bl := a.bl
  xn := fun z g hg => by
    obtain ⟨fa, fd, ps, F1, h1, h2, h3⟩ := a.xn z g hg
    rw [hK]
    exact ⟨fa, fd, ps, k, F1, h1, h2, h3, hr⟩
  er := fun z q hq => by
    obtain ⟨C, e⟩ := a.er z q hq
    exact ⟨C, e.at_ hr rfl rfl rfl rfl rfl⟩
  df := fun z q hq => by
    obtain ⟨fa, fd, ps, us, F1, h1, h2, h3, h4⟩ := a.df z q hq
    rw [hK]
    exact ⟨fa, fd, ps, k, us, F1, h1, h2, h3, h4, hr⟩
  gn := fun z g hg => by
    obtain ⟨fa, fd, ps, j, hj, F1, h1, h2, h3, h4⟩ := a.gn z g hg
    rw [hK]
    exact ⟨fa, fd, ps, j, F1, h1, h2, h3, hr.mono hj, h4⟩
  lk := fun _ => hl
  lkh := fun _ _ _ _ z => by
    rw [hl] at z
    exact z.elim
  ef := ⟨a.ef.cl, a.ef.ki, a.ef.tr, a.ef.gc⟩
  own := passes_of rfl
  stk := rfl
  frm := rfl
  fnx := fun _ => rfl
  io := hio
  fr := hfr
  fi := fun z g hg => by
    obtain ⟨fa, fd, ps, F1, h1, h2, h3⟩ := a.fi z g hg
    rw [hK]
    exact ⟨fa, fd, ps, k, F1, h1, h2, h3, hr⟩
  ff := fun z g hg => by
    obtain ⟨fa, fd, ps, F1, h1, h2, h3⟩ := a.ff z g hg
    rw [hK]
    exact ⟨fa, fd, ps, k, F1, h1, h2, h3, hr⟩
theorem Av.oksH (a : Av P w K mg base k Γ) (hh : Γ.hot = true) (hK : Γ.K = K) (hN : Γ.N = N) (nd : N.Nodup) (hsc : Γ.sc = scope) (hl : p.lk = noLk) (hio : p.io.map Prod.fst = Γ.io) (hfr : p.fr = Γ.fr) {q : Addr × Obj} (hq : L2H.Hot1 A q) (hr : L2H.RoomH k (A.deeper (PyProof.Rows.envOfC qual scope s.heap.objs.size f cdv))) :
    Oks Γ (L2H.cxH (L2N.CX P w) P w K mg base N qual scope f cdv A outer s H E q) p where
  K := hK.symm
  N := hN.symm
  nd := by rw [hN]; exact nd
  sc := hsc.symm
  calm := fun z => by
    rw [hh] at z
    cases z
  hotc := fun _ => ⟨q, hq, List.mem_singleton.mpr rfl⟩
  units := by
    have h := hr.un
    show (A.deeper (PyProof.Rows.envOfC qual scope s.heap.objs.size f cdv)).units + 100 < cLine
    omega
  fn := fun z => by
    rw [hh] at z
    cases z
  fnh := fun g hg => by
    obtain ⟨fa, fd, ps, F1, h1, h2, h3⟩ := a.fnh g hg
    rw [hK]
    exact ⟨fa, fd, ps, k, F1, h1, h2, h3, hr⟩
  bl := a.bl
  xn := fun z => by
    rw [hh] at z
    cases z
  er := fun z => by
    rw [hh] at z
    cases z
  gn := fun z => by
    rw [hh] at z
    cases z
  df := fun z => by
    rw [hh] at z
    cases z
  lk := fun z => by
    rw [hh] at z
    cases z
  lkh := fun _ _ _ _ z => by
    rw [hl] at z
    exact z.elim
  ef := ⟨a.ef.cl, a.ef.ki, a.ef.tr, a.ef.gc⟩
  own := passes_of rfl
  stk := rfl
  frm := rfl
  fnx := fun _ => rfl
  io := hio
  fr := hfr
  fi := fun z => by
    rw [hh] at z
    cases z
  ff := fun z => by
    rw [hh] at z
    cases z
end
/-- a def's end over data -/
theorem run_end {K : PySem.W.Frag} {p : Pa} (hs : Std p) {st st' : Pl} {B F H : Hp} {vs : List V} {as : List (Option D)} {N : List Str} {cl : Cl} {I : IF} {d : D} {Q : VK} (w1 : Bs p st B F H) (ha : ArA K p B vs as) (hn : I.n = N.length) (hrun : runF cl I as st = some (d, st'))
    (kk : ∀ v B' H', Ex B B' → Bs p st' B' F H' → Rp K B' v d → Q v H') : TSs K cl p I.body { nx := fun _ H' => Q .non H', rt := Q } (L2.start N vs) H := by
  refine ⟨st, B, fun _ => none, F, as.map slOf ++ List.replicate (N.length - as.length) .no, ?_⟩
  unfold runF at hrun
  rw [hn] at hrun
  cases e1 : evSs cl I.body (as.map slOf ++ List.replicate (N.length - as.length) .no) st with
  | none =>
    rw [e1] at hrun
    cases hrun
  | some o =>
    rw [e1] at hrun
    cases o with
    | rt d2 st2 =>
      cases hrun
      exact ⟨_, rel_start w1 ha, rfl, fun v B' H' x r pv => kk v B' H' x r (by rw [RtV.f hs.fr] at pv; exact pv)⟩
    | nx env2 st2 =>
      cases hrun
      exact ⟨_, rel_start w1 ha, rfl, fun B' M' σ' H' x r => kk .non B' H' x r.bs .non⟩
    | bk env2 st2 => cases hrun
    | ct env2 st2 => cases hrun
/-- a def's promise, over data, from its body in short -/
theorem fn_ok {x qual : Str} {params : Arguments} {body : List Stmt} {scope : Scope} {f : Addr} {fd : FuncData} {N ps : List Str} {k : Nat} {Γ : Gam} {I : IF} {cl : Cl} {g : Str} {dvs : List V} {kws : List (Str × V)} (F : FunD K x qual params body scope dvs kws f fd) (S : FnScope N ps scope)
    (hh : Γ.hot = false) (hK : Γ.K = K) (hN : Γ.N = N) (hsc : Γ.sc = scope) (hb : SSs Γ body I.body) (hn : I.n = N.length)
    (hcl : ∀ as st d st', cl g as st = some (d, st') → as.length = ps.length ∧ runF Γ.cl I as st = some (d, st')) (a : Av P w K mg base k Γ) (hio : Γ.io = none := by rfl) (hfr : Γ.fr = false := by rfl) : FnOk P w K mg base (L2N.CX P w) (k + 1) f fd ps (spF K cl g) := by
  refine F.ok S (fun vs H Q E h => ?_) (fun cdv A outer s H vs Q E hr h => ?_)
  · obtain ⟨p, st, B, F, as, d, st', _, _, ha, he, _⟩ := h
    rw [ha.length, (hcl _ _ _ _ he).1]
  · obtain ⟨p, st, B, F, as, d, st', hl, w1, ha, he, kk⟩ := h
    refine ⟨_, hb _ p (a.oks hh hK hN S.nd hsc hl.lk (by rw [hl.io, hio]; rfl) (hl.fr.trans hfr.symm) hr), ?_⟩
    rw [hK]
    exact run_end hl w1 ha hn (hcl _ _ _ _ he).2 kk
/-- the same within an except suite -/
theorem fnh_ok {x qual : Str} {params : Arguments} {body : List Stmt} {scope : Scope} {f : Addr} {fd : FuncData} {N ps : List Str} {k : Nat} {Γ : Gam} {I : IF} {cl : Cl} {g : Str} {dvs : List V} {kws : List (Str × V)} (F : FunD K x qual params body scope dvs kws f fd) (S : FnScope N ps scope)
    (hh : Γ.hot = true) (hK : Γ.K = K) (hN : Γ.N = N) (hsc : Γ.sc = scope) (hb : SSs Γ body I.body) (hn : I.n = N.length)
    (hcl : ∀ as st d st', cl g as st = some (d, st') → as.length = ps.length ∧ runF Γ.cl I as st = some (d, st')) (a : Av P w K mg base k Γ) (hio : Γ.io = none := by rfl) (hfr : Γ.fr = false := by rfl) : L2H.FnH P w K mg base (L2N.CX P w) (k + 1) f fd ps (spF K cl g) := by
  obtain ⟨oc, od, dV, kV, doc, pm, an, cdv, ct, osl, rfl, lk, hcd, _, _⟩ := F.ex
  refine L2H.fn_ofH lk hcd S (fun vs H Q E h => ?_) (fun A outer s H vs Q E q hq hr h => ?_)
  · obtain ⟨p, st, B, F, as, d, st', _, _, ha, he, _⟩ := h
    rw [ha.length, (hcl _ _ _ _ he).1]
  · obtain ⟨p, st, B, F, as, d, st', hl, w1, ha, he, kk⟩ := h
    refine ⟨_, hb _ p (a.oksH hh hK hN S.nd hsc hl.lk (by rw [hl.io, hio]; rfl) (hl.fr.trans hfr.symm) hq hr), ?_⟩
    rw [hK]
    exact run_end hl w1 ha hn (hcl _ _ _ _ he).2 kk
end
end Ip

set_option Elab.async false
set_option linter.all false
set_option maxRecDepth 100000
set_option maxHeartbeats 4000000
namespace Ip
open PySem L2
section
variable {Γ : Gam} {e a b c : Expr} {i : IE} {pos p0 p1 p2 p3 p4 p5 : Pos} {x : Str} {j0 j1 : Nat}
theorem pl_of {K : PySem.W.Frag} {p : Pa} {st : Pl} {B M F : Hp} {env : List Sl} {σ : L2.St} {H : Hp} {n : Nat} (r : Rel K p st B M F env σ H) (he : env[n]? = some .pl) : σ[n]? = some (some (.ref p)) := by
  obtain ⟨w, h1, h2⟩ := r.en.at_ n _ he
  cases w with
  | none => exact h2.elim
  | some v =>
    cases v with
    | ref a =>
      obtain rfl : a = p := h2
      exact h1
    | _ => exact h2.elim
theorem pix_se (n k : Nat) (hN : Γ.N[n]? = some x := by rfl) (hv : Vis Γ.sc x := by first | exact Or.inl rfl | exact Or.inr (Or.inl rfl) | exact Or.inr (Or.inr rfl)) (hd : (x == ("__debug__" : Str)) = false := by decide) (hcd : (x == ("__classdict__" : Str)) = false := by decide) :
    SE Γ (.Subscript (.Name x p0) (.Constant (.int (k : Int)) j0 p1) pos) (.pix n k) := fun X p o =>
  PE_weak (pe_ix ix_list (pe_var (i := n) (by rw [o.N]; exact hN) (by rw [o.sc]; exact hv) hd hcd) pe_int (fun _ _ => rfl)) fun σ H Q q => by
    obtain ⟨st, B, M, F, env, d, st', r, he, kk⟩ := q
    unfold ev at he
    split at he
    · rename_i e1
      obtain ⟨m, e2, e3⟩ := Option.map_eq_some_iff.mp he
      cases e3
      obtain ⟨h1, h2⟩ := r.bs.pl
      refine ⟨_, pl_of r e1, p, _, _, .int m, rfl, rfl, Or.inl (Or.inl h1), ?_, kk _ B H (Ex.refl B) r (.int _)⟩
      match k, e2 with
      | 1, e2 => cases e2; rfl
      | 2, e2 => cases e2; rfl
      | 3, e2 => cases e2; rfl
      | 4, e2 => cases e2; rfl
    · cases he
theorem pix0 (n : Nat) (hN : Γ.N[n]? = some x) (hv : Vis Γ.sc x) (hd : (x == ("__debug__" : Str)) = false) (hcd : (x == ("__classdict__" : Str)) = false) (X : Cx) (p : Pa) (o : Okx Γ X p) : PE X (.Subscript (.Name x p0) (.Constant (.int 0) j0 p1) pos)
    (fun σ H Q => ∃ (st : Pl) (B M F : Hp) (env : List Sl) (_q : Addr), Rel Γ.K p st B M F env σ H ∧ env[n]? = some .pl ∧ ∀ q, B q = some (.lst (st.ns.map V.int)) → Q (.ref q) H) :=
  PE_weak (pe_ix ix_list (pe_var (i := n) (by rw [o.N]; exact hN) (by rw [o.sc]; exact hv) hd hcd) pe_int (fun _ _ => rfl)) fun σ H Q q => by
    obtain ⟨st, B, M, F, env, _, r, he, kk⟩ := q
    obtain ⟨h1, h2⟩ := r.bs.pl
    exact ⟨_, pl_of r he, p, _, _, .ref p.q, rfl, rfl, Or.inl (Or.inl h1), rfl, kk _ h2⟩
theorem pcel_se (n : Nat) (hN : Γ.N[n]? = some x := by rfl) (hv : Vis Γ.sc x := by first | exact Or.inl rfl | exact Or.inr (Or.inl rfl) | exact Or.inr (Or.inr rfl)) (hd : (x == ("__debug__" : Str)) = false := by decide) (hcd : (x == ("__classdict__" : Str)) = false := by decide) :
    SE Γ (.Subscript (.Subscript (.Name x p0) (.Constant (.int 0) j0 p1) p2) (.Subscript (.Name x p3) (.Constant (.int 1) j1 p4) p5) pos) (.pcel n) := fun X p o =>
  PE_weak (pe_ix ix_list (pix0 n hN hv hd hcd X p o) (pix_se (x := x) n 1 hN hv hd hcd X p o) (fun _ _ => rfl)) fun σ H Q q => by
    obtain ⟨st, B, M, F, env, d, st', r, he, kk⟩ := q
    unfold ev at he
    split at he
    · rename_i e1
      obtain ⟨m, e2, e3⟩ := Option.map_eq_some_iff.mp he
      cases e3
      refine ⟨st, B, M, F, env, p.a, r, e1, fun q h2 => ⟨st, B, M, F, env, .int st.i, st, r, by unfold ev; rw [e1]; rfl, fun v B' H' x1 r' pv => ?_⟩⟩
      cases pv
      refine ⟨q, st.ns.map V.int, st.i, .int m, rfl, rfl, Or.inl (Or.inl (r'.bs.b _ _ (x1 _ _ h2))), ?_, kk _ B' H' x1 r' (.int _)⟩
      unfold L2.atI at e2 ⊢
      obtain ⟨w, e4, e5⟩ := Option.bind_eq_some_iff.mp e2
      rw [List.length_map, e4]
      show (st.ns.map V.int)[w]? = some (.int m)
      rw [List.getElem?_map, e5]
      rfl
    · cases he
theorem plen_se (n : Nat) (hN : Γ.N[n]? = some x := by rfl) (hv : Vis Γ.sc x := by first | exact Or.inl rfl | exact Or.inr (Or.inl rfl) | exact Or.inr (Or.inr rfl)) (hd : (x == ("__debug__" : Str)) = false := by decide) (hcd : (x == ("__classdict__" : Str)) = false := by decide)
    (hb : Γ.bs.contains "len" = true := by rfl) (hg : GlS Γ.sc "len" := by rfl) : SE Γ (.Call (.Name "len" p3) [.Subscript (.Name x p0) (.Constant (.int 0) j0 p1) p2] [] pos) (.plen n) := fun X p o =>
  PE_weak (pe_callB call_len (o.gl hg) (o.bl _ (List.contains_iff_mem.mp hb)) PySem.boot_len (pa_cons (pix0 n hN hv hd hcd X p o) pa_nil) (by decide) (by decide) rfl rfl) fun σ H Q q => by
    obtain ⟨st, B, M, F, env, d, st', r, he, kk⟩ := q
    unfold ev at he
    split at he
    · rename_i e1
      cases he
      exact ⟨st, B, M, F, env, p.a, r, e1, fun q h2 => ⟨_, _, rfl, .inl ⟨_, Or.inl (Or.inl (r.bs.b _ _ h2)), rfl⟩, kk _ B H (Ex.refl B) r (by rw [List.length_map]; exact .int _)⟩⟩
    · cases he
theorem Rel.pool {K : PySem.W.Frag} {p : Pa} {st st' : Pl} {B M F : Hp} {env : List Sl} {σ : L2.St} {H : Hp} (r : Rel K p st B M F env σ H) (hq : B p.q = some (.lst (st'.ns.map V.int))) : Rel K p st' B M F env σ (upd H p (.lst [.ref p.q, .int st'.i, .int st'.r, .int st'.c, .int st'.l])) where
  bs := {
    b := r.bs.b.right r.bs.pb
    f := r.bs.f.right r.bs.pf
    d := r.bs.d
    pf := r.bs.pf
    pb := r.bs.pb
    pl := ⟨upd_same, hq⟩ }
  m := fun a o h => by
    rw [upd_ne (r.md a o h).2.2]
    exact r.m a o h
  md := r.md
  en := r.en
theorem ss_pput (n k : Nat) (h : SE Γ e i) (hN : Γ.N[n]? = some x := by rfl) (hv : Vis Γ.sc x := by first | exact Or.inl rfl | exact Or.inr (Or.inl rfl) | exact Or.inr (Or.inr rfl)) (hd : (x == ("__debug__" : Str)) = false := by decide) (hcd : (x == ("__classdict__" : Str)) = false := by decide)
    (hs : ∀ env, swapsWithSole [.Subscript (.Name x p0) (.Constant (.int (k : Int)) j0 p1) p2] e pos.line env = pure false := by intro _; rfl) (hw : ∀ env, swappedStores [.Subscript (.Name x p0) (.Constant (.int (k : Int)) j0 p1) p2] e env = pure none := by intro _; rfl)
    (h1 : ∀ env, (assignEach [.Subscript (.Name x p0) (.Constant (.int (k : Int)) j0 p1) p2] env).map (·.2) = [assign (.Subscript (.Name x p0) (.Constant (.int (k : Int)) j0 p1) p2) env] := by intro _; rfl) :
    SS Γ (.Assign [.Subscript (.Name x p0) (.Constant (.int (k : Int)) j0 p1) p2] e pos) (.pput n k i) := fun X p o =>
  PS_weak (ps_asg (h X p o.toOkx) (pg_sub (pe_var (i := n) (by rw [o.N]; exact hN) (by rw [o.sc]; exact hv) hd hcd) pe_int set_list) (hs _) (hw _) (h1 _)) fun D σ H q => by
    obtain ⟨st, B, M, F, env, out, r, he, kk⟩ := q
    unfold evS at he
    split at he
    · rename_i m st1 e1
      split at he
      · rename_i e2
        obtain ⟨st2, e3, e4⟩ := Option.map_eq_some_iff.mp he
        subst e4
        refine ⟨st, B, M, F, env, .int m, st1, r, e1, fun v B' H' x1 r' pv => ?_⟩
        cases pv
        obtain ⟨h3, h4⟩ := r'.bs.pl
        refine ⟨_, pl_of r' e2, p, _, (k : Int), k, rfl, rfl, h3, ?_, ?_⟩
        · match k, e3 with
          | 1, _ => rfl
          | 2, _ => rfl
          | 3, _ => rfl
          | 4, _ => rfl
        · match k, e3 with
          | 1, e3 => cases e3; exact kk B' M σ _ x1 (r'.pool (st' := { st1 with i := m }) h4)
          | 2, e3 => cases e3; exact kk B' M σ _ x1 (r'.pool (st' := { st1 with r := m }) h4)
          | 3, e3 => cases e3; exact kk B' M σ _ x1 (r'.pool (st' := { st1 with c := m }) h4)
          | 4, e3 => cases e3; exact kk B' M σ _ x1 (r'.pool (st' := { st1 with l := m }) h4)
      · cases he
    · cases he
end
end Ip

set_option Elab.async false
set_option linter.all false
set_option maxRecDepth 100000
set_option maxHeartbeats 4000000
namespace Ip
open PySem L2
def Ty.n : Ty → String
  | .int => "int"
  | .bool => "bool"
  | .str => "str"
  | .list => "list"
  | .tuple => "tuple"
def Ty.s : Ty → Str
  | .int => "int"
  | .bool => "bool"
  | .str => "str"
  | .list => "list"
  | .tuple => "tuple"
theorem ty_of {K : PySem.W.Frag} {B H : Hp} {v : V} {d : D} (x : Ex B H) (h : Rp K B v d) : ∃ a, TyX K H v (.type a) ∧ ∀ t : Ty, kitB a t.n = some (isiD t d) := by
  cases h with
  | non => exact ⟨_, .base .non, fun t => by cases t <;> first | exact (show kitB _ _ = some true by decide +kernel) | exact (show kitB _ _ = some false by decide +kernel)⟩
  | bl b => exact ⟨_, .base (.bl b), fun t => by cases t <;> first | exact (show kitB _ _ = some true by decide +kernel) | exact (show kitB _ _ = some false by decide +kernel)⟩
  | int i => exact ⟨_, .base (.int i), fun t => by cases t <;> first | exact (show kitB _ _ = some true by decide +kernel) | exact (show kitB _ _ = some false by decide +kernel)⟩
  | str s => exact ⟨_, .base (.str s), fun t => by cases t <;> first | exact (show kitB _ _ = some true by decide +kernel) | exact (show kitB _ _ = some false by decide +kernel)⟩
  | lst hx _ => exact ⟨_, .base (.lst (x _ _ hx)), fun t => by cases t <;> first | exact (show kitB _ _ = some true by decide +kernel) | exact (show kitB _ _ = some false by decide +kernel)⟩
  | tup hx _ =>
    rcases hx with (hx | ⟨o, hx⟩) | ⟨o, its, n, hk, hc, _⟩
    · exact ⟨_, .base (.tup (x _ _ hx)), fun t => by cases t <;> first | exact (show kitB _ _ = some true by decide +kernel) | exact (show kitB _ _ = some false by decide +kernel)⟩
    · exact ⟨_, .fTuple (x _ _ hx), fun t => by cases t <;> first | exact (show kitB _ _ = some true by decide +kernel) | exact (show kitB _ _ = some false by decide +kernel)⟩
    · exact ⟨_, .kTuple hk hc, fun t => by cases t <;> first | exact (show kitB _ _ = some true by decide +kernel) | exact (show kitB _ _ = some false by decide +kernel)⟩
theorem ty_blt (t : Ty) : bootBuiltins t.s = some (.type t.n) := by cases t <;> decide +kernel
theorem ty_db (t : Ty) : t.s ≠ "__name__" ∧ (t.s == ("__debug__" : Str)) = false := by cases t <;> decide
section
variable {Γ : Gam} {e : Expr} {i : IE} {pos p0 p1 : Pos}
theorem isi_se (t : Ty) (h : SE Γ e i) (hb : Γ.bs.contains "isinstance" = true := by rfl) (hg : GlS Γ.sc "isinstance" := by rfl) (ht : Γ.bs.contains t.s = true := by rfl) (htg : GlS Γ.sc t.s := by rfl)
    (hs : ∀ env, starEach [e, .Name t.s p1] env = (false, eval e env) :: starEach [.Name t.s p1] env := by intro _; rfl) : SE Γ (.Call (.Name "isinstance" p0) [e, .Name t.s p1] [] pos) (.isi t i) := fun X p o =>
  PE_weak (pe_callB call_isi (o.gl hg) (o.bl _ (List.contains_iff_mem.mp hb)) (by decide +kernel) (pa_cons (h X p o) (pa_cons (pe_bltn (v := .ty t.n) (o.gl htg) (o.bl _ (List.contains_iff_mem.mp ht)) (ty_blt t) rfl (ty_db t).1 (ty_db t).2) pa_nil rfl) (hs _)) (by decide) (by decide) (hs _) rfl) fun σ H Q q => by
    rw [o.K]
    obtain ⟨st, B, M, F, env, d, st', r, he, k⟩ := q
    unfold ev at he
    split at he
    · rename_i x st1 e1
      cases he
      refine ⟨st, B, M, F, env, x, _, r, e1, fun v B' H' x1 r' pv => ?_⟩
      obtain ⟨a, h1, h2⟩ := ty_of r'.bs.b pv
      exact ⟨v, .ty t.n, .type a, .type t.n, _, rfl, .ty _, h1, kit_ty (h2 t), k _ B' H' x1 r' (.bl _)⟩
    · cases he
end
end Ip

set_option Elab.async false
set_option linter.all false
set_option maxRecDepth 100000
set_option maxHeartbeats 4000000
/-! The defs of a text together; the pool's making; the law. -/
namespace Ip
open PySem L2
/-- a def as it stands behind the top -/
def Hv (K : PySem.W.Frag) (mg : Str → Option Value) (x : Str) (st : Stmt) (ps : List Str) : Prop := ∃ fa fd dvs, FunD K x x (defArgs st) (defBody st) (defScope st) dvs [] fa fd ∧ mg x = some (.ref fa) ∧ Binds K fd ps []
/-- the same where the last parameters have defaults -/
def HvD (K : PySem.W.Frag) (mg : Str → Option Value) (x : Str) (st : Stmt) (ps : List Str) (cs : List Cst) : Prop := ∃ fa fd dvs us, FunD K x x (defArgs st) (defBody st) (defScope st) dvs [] fa fd ∧ mg x = some (.ref fa) ∧ Binds K fd ps us ∧ Vals (cs.map Cst.v) us
def runI (n : Nat) (cl : Cl) (I : IF) (as : List (Option D)) (st : Pl) : Option (D × Pl) := if as.length = n then runF cl I as st else none
def noCl : Cl := fun _ _ _ => none
section
variable {P : Program} {w : World} {K : PySem.W.Frag} {mg : Str → Option Value} {base : Heap}
theorem fo_zero {k : Nat} {f : Str} {st : Stmt} {ps : List Str} (h : Hv K mg f st ps) : Fo P w K mg base k noCl f := by
  obtain ⟨fa, fd, dvs, F, hm, hb⟩ := h
  have no : ∀ vs H Q E, ¬ spF K noCl f vs H Q E := fun vs H Q E q => by
    obtain ⟨_, _, _, _, _, _, _, _, _, _, e, _⟩ := q
    cases e
  exact ⟨fa, fd, ps, ⟨fun vs H Q E q => (no _ _ _ _ q).elim, fun A outer s H args us vs Q E _ _ _ _ q => (no _ _ _ _ q).elim⟩, hm, F.kp, hb⟩
theorem foh_zero {k : Nat} {f : Str} {st : Stmt} {ps : List Str} (h : Hv K mg f st ps) : FoH P w K mg base k noCl f := by
  obtain ⟨fa, fd, dvs, F, hm, hb⟩ := h
  have no : ∀ vs H Q E, ¬ spF K noCl (hotN f) vs H Q E := fun vs H Q E q => by
    obtain ⟨_, _, _, _, _, _, _, _, _, _, e, _⟩ := q
    cases e
  exact ⟨fa, fd, ps, ⟨fun vs H Q E q => (no _ _ _ _ q).elim, fun A outer s H args us vs Q E _ _ _ _ _ _ _ q => (no _ _ _ _ q).elim⟩, hm, F.kp, hb⟩
theorem fog_zero {k : Nat} {es : List (Str × Str)} {f : Str} {st : Stmt} {ps : List Str} (h : Hv K mg f st ps) : FoG P w K mg base k es noCl f := by
  obtain ⟨fa, fd, dvs, F, hm, hb⟩ := h
  have no : ∀ vs H Q E, ¬ spG mg es K noCl f vs H Q E := fun vs H Q E q => by
    obtain ⟨_, _, _, _, _, _, _, _, q⟩ := q
    rcases q with ⟨_, _, e, _⟩ | ⟨_, _, _, e, _⟩
    · cases e
    · cases e
  exact ⟨fa, fd, ps, ⟨fun vs H Q E q => (no _ _ _ _ q).elim, fun A outer s H args us vs Q E _ _ _ _ q => (no _ _ _ _ q).elim⟩, hm, F.kp, hb⟩
theorem runI_of {n : Nat} {cl : Cl} {I : IF} {as : List (Option D)} {s : Pl} {d : D} {s' : Pl} (e : runI n cl I as s = some (d, s')) : as.length = n ∧ runF cl I as s = some (d, s') := by
  unfold runI at e
  split at e
  · rename_i hl
    exact ⟨hl, e⟩
  · cases e
theorem fo_step {k : Nat} {f : Str} {st : Stmt} {N ps : List Str} {Γ : Gam} {I : IF} {cl : Cl} (h : Hv K mg f st ps) (S : FnScope N ps (defScope st)) (hh : Γ.hot = false) (hK : Γ.K = K) (hN : Γ.N = N) (hsc : Γ.sc = defScope st) (hb : SSs Γ (defBody st) I.body) (hn : I.n = N.length)
    (hcl : ∀ as s, cl f as s = runI ps.length Γ.cl I as s) (a : Av P w K mg base k Γ) (hio : Γ.io = none := by rfl) (hfr : Γ.fr = false := by rfl) : Fo P w K mg base (k + 1) cl f := by
  obtain ⟨fa, fd, dvs, F, hm, hbn⟩ := h
  refine ⟨fa, fd, ps, fn_ok F S hh hK hN hsc hb hn (fun as s d s' e => ?_) a hio hfr, hm, F.kp, hbn⟩
  rw [hcl] at e
  exact runI_of e
theorem foh_step {k : Nat} {f : Str} {st : Stmt} {N ps : List Str} {Γ : Gam} {I : IF} {cl : Cl} (h : Hv K mg f st ps) (S : FnScope N ps (defScope st)) (hh : Γ.hot = true) (hK : Γ.K = K) (hN : Γ.N = N) (hsc : Γ.sc = defScope st) (hb : SSs Γ (defBody st) I.body) (hn : I.n = N.length)
    (hcl : ∀ as s, cl (hotN f) as s = runI ps.length Γ.cl I as s) (a : Av P w K mg base k Γ) (hio : Γ.io = none := by rfl) (hfr : Γ.fr = false := by rfl) : FoH P w K mg base (k + 1) cl f := by
  obtain ⟨fa, fd, dvs, F, hm, hbn⟩ := h
  refine ⟨fa, fd, ps, fnh_ok F S hh hK hN hsc hb hn (fun as s d s' e => ?_) a hio hfr, hm, F.kp, hbn⟩
  rw [hcl] at e
  exact runI_of e
/-! ### the pool's making -/
def spPool (K : PySem.W.Frag) : Sp := fun vs H Q _ => ∃ (a : Addr) (ns : List Int), vs = [.ref a] ∧ SqL K H a (ns.map V.int) ∧ ∀ q p, H q = none → H p = none → p ≠ q → Q (.ref p) (upd (upd H q (.lst (ns.map V.int))) p (.lst [.ref q, .int 0, .int 0, .int 0, .int 0]))
theorem pool_ok {x qual : Str} {params : Arguments} {body : List Stmt} {scope : Scope} {f : Addr} {fd : FuncData} {y : Str} {p0 p1 p2 p3 p4 : Pos} {j1 j2 j3 j4 : Nat} {q1 q2 q3 q4 : Pos} (F : FunD K x qual params body scope [] [] f fd) (S : FnScope [y] [y] scope)
    (hb : body = [.Return (some (.List [.Call (.Name "list" p0) [.Name y p1] [] p2, .Constant (.int 0) j1 q1, .Constant (.int 0) j2 q2, .Constant (.int 0) j3 q3, .Constant (.int 0) j4 q4] p3)) p4])
    (hl : mg "list" = none) (hg : GlS scope "list") (hy : Vis scope y) (h1 : (y == ("__debug__" : Str)) = false) (h2 : (y == ("__classdict__" : Str)) = false) : FnOk P w K mg base (L2N.CX P w) 1 f fd [y] (spPool K) := by
  subst hb
  refine F.ok S (fun vs H Q E h => ?_) (fun cdv A outer s H vs Q E hr h => ?_)
  · obtain ⟨a, ns, rfl, _⟩ := h
    rfl
  · obtain ⟨a, ns, rfl, hs, k⟩ := h
    refine ⟨_, pss_one (ps_ret (pe_lst (pa_cons (pe_callTy call_list_of hg hl (by decide +kernel) (pa_cons (pe_var (i := 0) rfl hy h1 h2) pa_nil) (by decide) (by decide)) (pa_cons pe_int (pa_cons pe_int (pa_cons pe_int (pa_cons pe_int pa_nil))))))), ?_⟩
    refine ⟨_, rfl, a, _, rfl, .inl hs, fun q hq => ⟨by show 5 ≤ sizeLine; decide, fun p hp => ?_⟩⟩
    have hpq : p ≠ q := fun e => by
      rw [e, upd_same] at hp
      cases hp
    rw [upd_ne hpq] at hp
    exact k q p hq hp hpq
/-! ### the law -/
def spLaw (K : PySem.W.Frag) : Sp := fun vs H Q _ => ∃ (a : Addr) (ns : List Int), vs = [.ref a] ∧ SqL K H a (ns.map V.int) ∧ ns.length ≤ 63 ∧ ∀ H', Q (.bl true) H'
def pl0 (ns : List Int) : Pl := ⟨ns, 0, 0, 0, 0⟩
/-- what the law's rows behind the pool's come to, at a script -/
def lawRun (cl : Cl) (n : Nat) (b : ISs) (ns : List Int) : Option Out := evSs cl b (.no :: .pl :: List.replicate (n - 2) .no) (pl0 ns)
theorem PSs_ex {X : Cx} {ss : List Stmt} {t : Pa → TS} (h : ∀ p : Pa, Std p → PSs X ss (t p)) : PSs X ss (fun D σ H => ∃ p : Pa, Std p ∧ t p D σ H) := ⟨fun pins s σ H D I q => by
  obtain ⟨p, hp, q⟩ := q
  exact (h p hp).run pins s σ H D I q⟩
theorem law_ok {x qual : Str} {params : Arguments} {scope : Scope} {f : Addr} {fd : FuncData} {y z pn : Str} {N : List Str} {k : Nat} {Γ : Gam} {I : IF} {rest : List Stmt} {p0 p1 p2 p3 p4 : Pos} {fp : Addr} {fdp : FuncData} {yp : Str}
    (F : FunD K x qual params (.Assign [.Name z p0] (.Call (.Name pn p1) [.Name y p2] [] p3) p4 :: rest) scope [] [] f fd) (S : FnScope (y :: z :: N) [y] scope)
    (hh : Γ.hot = false) (hK : Γ.K = K) (hN : Γ.N = y :: z :: N) (hsc : Γ.sc = scope) (hb : SSs Γ rest I.body) (hn : I.n = N.length + 2) (av : Av P w K mg base (k + 1) Γ)
    (Fp : FnOk P w K mg base (L2N.CX P w) 1 fp fdp [yp] (spPool K)) (hp : mg pn = some (.ref fp)) (hkp : PySem.W.keepIn K (.ref fp) = true) (hbp : Binds K fdp [yp] []) (hgp : GlS scope pn) (hy : Vis scope y) (hz : Loc scope z)
    (hd : (pn == ("__debug__" : Str)) = false) (h1 : (y == ("__debug__" : Str)) = false) (h2 : (y == ("__classdict__" : Str)) = false)
    (true_ : ∀ ns : List Int, ns.length ≤ 63 → ∃ st, lawRun Γ.cl I.n I.body ns = some (.rt (.bool true) st)) (hio : Γ.io = none := by rfl) (hfr : Γ.fr = false := by rfl) : FnOk P w K mg base (L2N.CX P w) (k + 2) f fd [y] (spLaw K) := by
  refine F.ok S (fun vs H Q E h => ?_) (fun cdv A outer s H vs Q E hr h => ?_)
  · obtain ⟨a, ns, rfl, _⟩ := h
    rfl
  · obtain ⟨a, ns, rfl, hs, hl, kk⟩ := h
    refine ⟨_, pss_cons (ps_set (i := 1) S.nd rfl hz (pe_call Fp (hr.mono (by omega)) hgp hp hkp hbp .nil passN (pa_cons (pe_var (i := 0) rfl hy h1 h2) pa_nil) hd)) (PSs_ex fun p hp => hb _ p (av.oks hh hK hN S.nd hsc hp.lk (by rw [hp.io, hio]; rfl) (hp.fr.trans hfr.symm) hr)), ?_⟩
    refine ⟨_, rfl, a, ns, rfl, hs, fun q p hq hp hpq => ?_⟩
    obtain ⟨st, ht⟩ := true_ ns hl
    unfold lawRun at ht
    rw [hn] at ht
    have ht' : evSs Γ.cl I.body (.no :: .pl :: List.replicate N.length .no) (pl0 ns) = some (.rt (.bool true) st) := ht
    rw [hK]
    refine ⟨⟨p, q, noLk, none, false⟩, ⟨rfl, rfl, rfl⟩, pl0 ns, upd (fun _ => none) q (.lst (ns.map V.int)), fun _ => none, fun _ => none, .no :: .pl :: List.replicate N.length .no, _, ?_, ht', fun v B' H' x r pv => ?_⟩
    · refine ⟨⟨fun c u e => ?_, fun c u e => by (cases e), fun c u e => by (cases e), rfl, ?_, upd_same, upd_same⟩, fun c u e => by (cases e), fun c u e => by (cases e), ?_⟩
      · by_cases hc : c = q
        · subst hc
          rw [upd_same] at e
          rw [← e, upd_ne hpq.symm, upd_same]
        · rw [upd_ne hc] at e
          cases e
      · rw [upd_ne hpq]
      · refine ⟨?_, fun i s hi => ?_, fun i j ds es b hi _ _ _ => ?_, fun i b ds z _ => by cases z⟩
        · simp [L2.start]
        · match i, hi with
          | 0, hi =>
            cases hi
            exact ⟨some (.ref a), rfl, True.intro⟩
          | 1, hi =>
            cases hi
            exact ⟨some (.ref p), rfl, rfl⟩
          | i + 2, hi =>
            have hi2 : (List.replicate N.length Sl.no)[i]? = some s := hi
            rw [List.getElem?_replicate] at hi2
            split at hi2
            · rename_i hlt
              cases hi2
              refine ⟨none, ?_, True.intro⟩
              show (List.replicate N.length (none : Option V))[i]? = some none
              rw [List.getElem?_replicate, if_pos hlt]
            · cases hi2
        · match i, hi with
          | 0, hi => cases hi
          | 1, hi => cases hi
          | i + 2, hi =>
            have hi2 : (List.replicate N.length Sl.no)[i]? = some (.ow ds) := hi
            rw [List.getElem?_replicate] at hi2
            split at hi2 <;> cases hi2
    · have pv : Rp K B' v (.bool true) := pv
      cases pv
      exact kk H'
/-- a def that lets nothing out -/
theorem quiet_fn {k : Nat} {f : Addr} {fd : FuncData} {ps : List Str} {sp : Sp} (F : FnOk P w K mg base (L2N.CX P w) k f fd ps sp) (h : ∀ vs H Q E, sp vs H Q E → sp vs H Q E0) : FnOk P w K mg base CX0 k f fd ps sp :=
  ⟨F.len, fun A outer s H args us vs Q E hr e0 hb hv hs => codeAny_mono (F.run A outer s H args us vs Q E0 hr e0 hb hv (h _ _ _ _ hs)) fun r s' q => by
    cases r with
    | ok fl => cases fl <;> exact q
    | error e =>
      obtain ⟨_, _, _, _, _, _, _, _, _, _, _, _, z⟩ := q
      exact z.elim⟩
end
end Ip

set_option Elab.async false
set_option linter.all false
set_option maxRecDepth 100000
set_option maxHeartbeats 4000000
namespace Ip
open PySem L2
inductive SJ (Γ : Gam) : List Expr → IEs → Prop
  | nil : SJ Γ [] .nil
  | lit {y : Str} {j : Nat} {p0 : Pos} {es : List Expr} {ies : IEs} (t : SJ Γ es ies) (hy : y.length ≤ most) : SJ Γ (.Constant (.str y) j p0 :: es) (.cons (.cst (.str y)) ies)
  | fmt {p0 : Pos} {e : Expr} {i : IE} {es : List Expr} {ies : IEs} (h : SE Γ e i) (t : SJ Γ es ies) : SJ Γ (.FormattedValue e (-1) none p0 :: es) (.cons i ies)
section
variable {Γ : Gam} {e a b c : Expr} {es : List Expr} {ia ib ic i : IE} {ies : IEs} {pos p0 p1 p2 p3 : Pos} {x : Str} {s : Stmt}
/-! ### what is never reached -/
theorem stop_se : SE Γ e .stop := fun X p o => ⟨fun pins s σ H Q I q => by
  obtain ⟨st, B, M, F, env, d, st', r, he, k⟩ := q
  unfold ev at he
  cases he⟩
theorem stop_st : ST Γ e .stop := fun X p o => ⟨fun pins s σ H Q I q => by
  obtain ⟨st, B, M, F, env, d, st', r, he, k⟩ := q
  unfold ev at he
  cases he⟩
theorem ss_stop : SS Γ s .stop := fun X p o => ⟨fun pins s σ H D I q => by
  obtain ⟨st, B, M, F, env, out, r, he, k⟩ := q
  unfold evS at he
  cases he⟩
/-! ### a < b < c -/
theorem tx_chn {K : PySem.W.Frag} {cl : Cl} {op op' : CmpOp} {o1 o2 : Cop} {σ : L2.St} {H : Hp} {Q : VK} (C : CmpOk op o1) (C' : CmpOk op' o2) (q : Tx K cl p (.chn o1 o2 ia ib ic) σ H Q) :
    tChain (C.r K) (C'.r K) (Tx K cl p ia) (Tx K cl p ib) (Tx K cl p ic) σ H Q := by
  obtain ⟨st, B, M, F, env, d, st', r, he, k⟩ := q
  unfold ev at he
  cases e1 : ev cl ia env st with
  | none =>
    rw [e1] at he
    cases he
  | some xs =>
    obtain ⟨x, st1⟩ := xs
    rw [e1] at he
    cases e2 : ev cl ib env st1 with
    | none =>
      simp only [e2] at he
      cases he
    | some ys =>
      obtain ⟨y, st2⟩ := ys
      simp only [e2] at he
      cases e3 : cmpD o1 x y with
      | none =>
        rw [e3] at he
        cases he
      | some z =>
        rw [e3] at he
        refine ⟨st, B, M, F, env, x, st1, r, e1, fun v B1 H1 x1 r1 p1 => ⟨st1, B1, M, F, env, y, st2, r1, e2, fun u B2 H2 x2 r2 p2 => C.rd r2 (p1.mono x2) p2 e3 _ ⟨z, rfl, ?_⟩⟩⟩
        cases z with
        | false =>
          cases he
          rw [if_neg (by decide)]
          exact k _ B2 H2 (x1.trans x2) r2 (.bl _)
        | true =>
          rw [if_pos rfl]
          cases e4 : ev cl ic env st2 with
          | none =>
            simp only [e4] at he
            cases he
          | some zs =>
            obtain ⟨z, st3⟩ := zs
            simp only [e4] at he
            obtain ⟨w, e5, e6⟩ := Option.map_eq_some_iff.mp he
            cases e6
            exact ⟨st2, B2, M, F, env, z, _, r2, e4, fun t B3 H3 x3 r3 p3 => C'.rd r3 (p2.mono x3) p3 e5 _ (k _ B3 H3 ((x1.trans x2).trans x3) r3 (.bl _))⟩
theorem chn_se {op op' : CmpOp} {o1 o2 : Cop} (C : CmpOk op o1) (C' : CmpOk op' o2) (ha : SE Γ a ia) (hb : SE Γ b ib) (hc : SE Γ c ic) (hm : lastMarks [op, op'] [b, c] = false := by with_unfolding_all rfl) :
    SE Γ (.Compare a [op, op'] [b, c] pos) (.chn o1 o2 ia ib ic) := fun X p ok =>
  PE_weak (pe_chain (C.ok X (by have := ok.units; omega)) (C'.ok X (by have := ok.units; omega)) (ha X p ok) (hb X p ok) (hc X p ok) hm) fun σ H Q q => by
    rw [ok.K]
    exact tx_chn C C' q
/-! ### all, any of a list of truths -/
theorem bools_rp {K : PySem.W.Frag} {B : Hp} : ∀ {ds : List D} {vs : List V} {bs : List Bool}, RpA K B vs ds → boolsD ds = some bs → vs = bs.map V.bl
  | [], _, bs, .nil, h => by
    cases h
    rfl
  | d :: ds, _, bs, .cons hv r, h => by
    cases d with
    | bool b =>
      obtain ⟨bs', e1, e2⟩ := Option.map_eq_some_iff.mp (show (boolsD ds).map (fun bs => b :: bs) = some bs from h)
      subst e2
      cases hv
      rw [bools_rp r e1]
      rfl
    | _ => cases h
theorem all_se (h : SE Γ e i) (hh : Γ.hot = false := by rfl) (hb : Γ.bs.contains "all" = true := by rfl) (hg : GlS Γ.sc "all" := by rfl) (hs : ∀ env, starEach [e] env = (false, eval e env) :: starEach [] env := by intro _; rfl) :
    SE Γ (.Call (.Name "all" p0) [e] [] pos) (.bi .all (.cons i .nil)) := fun X p o =>
  PE_weak (pe_callB (cr_all (o.calm hh)) (o.gl hg) (o.bl _ (List.contains_iff_mem.mp hb)) (by decide +kernel) ((sa_cons h sa_nil hs) X p o) (by decide) (by decide) (hs _) rfl) fun σ H Q q => by
    refine tx_bi ?_ q
    intro st B M F env v d z H r pv e2 Q k
    rw [o.K]
    cases pv with
    | @lst a xs ds hx rx =>
      obtain ⟨bs, e3, e4⟩ := Option.map_eq_some_iff.mp (show (boolsD ds).map (fun bs => PyData.bool (bs.all id)) = some z from e2)
      subst e4
      rw [bools_rp rx e3] at hx
      exact ⟨a, bs, rfl, Or.inl (Or.inl (r.bs.b _ _ hx)), k _ B H (Ex.refl B) r (.bl _)⟩
    | _ => cases e2
theorem any_se (h : SE Γ e i) (hh : Γ.hot = false := by rfl) (hb : Γ.bs.contains "any" = true := by rfl) (hg : GlS Γ.sc "any" := by rfl) (hs : ∀ env, starEach [e] env = (false, eval e env) :: starEach [] env := by intro _; rfl) :
    SE Γ (.Call (.Name "any" p0) [e] [] pos) (.bi .any (.cons i .nil)) := fun X p o =>
  PE_weak (pe_callB (cr_any (o.calm hh)) (o.gl hg) (o.bl _ (List.contains_iff_mem.mp hb)) (by decide +kernel) ((sa_cons h sa_nil hs) X p o) (by decide) (by decide) (hs _) rfl) fun σ H Q q => by
    refine tx_bi ?_ q
    intro st B M F env v d z H r pv e2 Q k
    rw [o.K]
    cases pv with
    | @lst a xs ds hx rx =>
      obtain ⟨bs, e3, e4⟩ := Option.map_eq_some_iff.mp (show (boolsD ds).map (fun bs => PyData.bool (bs.any id)) = some z from e2)
      subst e4
      rw [bools_rp rx e3] at hx
      exact ⟨a, bs, rfl, Or.inl (Or.inl (r.bs.b _ _ hx)), k _ B H (Ex.refl B) r (.bl _)⟩
    | _ => cases e2
/-! ### xs[::-1] -/
theorem RpA.rev {K : PySem.W.Frag} {B : Hp} : ∀ {vs : List V} {ds : List D}, RpA K B vs ds → RpA K B vs.reverse ds.reverse
  | _, _, .nil => .nil
  | _, _, .cons h r => by
    rw [List.reverse_cons, List.reverse_cons]
    exact (RpA.rev r).append (.one h)
theorem rev_se {k : Nat} (h : SE Γ e i) : SE Γ (.Subscript e (.Slice none none (some (.UnaryOp .USub (.Constant (.int 1) k p1) p2)) p3) pos) (.rev i) := fun X p o => PE_weak (pe_revL (h X p o)) fun σ H Q q => by
  rw [o.K]
  obtain ⟨st, B, M, F, env, d, st', r, he, kk⟩ := q
  unfold ev at he
  split at he
  · rename_i xs st1 e1
    cases he
    refine ⟨st, B, M, F, env, .list xs, _, r, e1, fun v B1 H1 x1 r1 p1 => ?_⟩
    cases p1 with
    | @lst a vs ds hx rx =>
      exact ⟨a, vs, rfl, Or.inl (Or.inl (r1.bs.b _ _ hx)), fun q hq => kk (.ref q) _ _ (x1.trans (Ex.new (r1.bs.b.free hq))) (r1.new hq) (.lst upd_same (rx.rev.mono (Ex.new (r1.bs.b.free hq))))⟩
  · cases he
/-! ### x += e, over ints -/
theorem ss_aug_int {op : Operator} {o : Bop} {f : Int → Int → Int} (j : Nat) (hop : ∀ X : Cx, PIp X op (ipI f)) (hd : ∀ m n d, binD o (.int m) (.int n) = some d → d = .int (f m n)) (h : SE Γ e i) (hN : Γ.N[j]? = some x) (hl : Loc Γ.sc x) :
    SS Γ (.AugAssign (.Name x p0) op e pos) (.aug j o i) := fun X p ok =>
  PS_weak (ps_aug (i := j) (by rw [ok.N]; exact ok.nd) (by rw [ok.N]; exact hN) (by rw [ok.sc]; exact hl) (h X p ok.toOkx) (hop X) (.inl (ok.fnx x))) fun D σ H q => by
    obtain ⟨st, B, M, F, env, out, r, he, k⟩ := q
    unfold evS at he
    split at he
    · rename_i m e0
      obtain ⟨ov, h1, h2⟩ := r.en.at_ j _ e0
      cases ov with
      | none => exact h2.elim
      | some v =>
        cases h2
        refine ⟨_, h1, ?_⟩
        split at he
        · rename_i n st1 e1
          split at he
          · rename_i d e2
            cases he
            refine ⟨st, B, M, F, env, .int n, st1, r, e1, fun v B' H' x1 r' pv => ?_⟩
            cases pv
            obtain rfl := hd _ _ _ e2
            exact ⟨m, n, rfl, rfl, k B' M _ H' x1 (r'.set (.int _) j)⟩
          · cases he
        · cases he
    · cases he
theorem ss_augAdd (j : Nat) (h : SE Γ e i) (hN : Γ.N[j]? = some x := by rfl) (hl : Loc Γ.sc x := by first | exact Or.inl rfl | exact Or.inr rfl) : SS Γ (.AugAssign (.Name x p0) .Add e pos) (.aug j .add i) :=
  ss_aug_int j (fun _ => ip_add) (fun m n d h => (Option.some.inj h).symm) h hN hl
theorem ss_augSub (j : Nat) (h : SE Γ e i) (hN : Γ.N[j]? = some x := by rfl) (hl : Loc Γ.sc x := by first | exact Or.inl rfl | exact Or.inr rfl) : SS Γ (.AugAssign (.Name x p0) .Sub e pos) (.aug j .sub i) :=
  ss_aug_int j (fun _ => ip_sub) (fun m n d h => (Option.some.inj h).symm) h hN hl
/-! ### f-strings -/
theorem sj_run {X : Cx} {p : Pa} (o : Okx Γ X p) : ∀ {es : List Expr} {ies : IEs}, SJ Γ es ies → ∃ ts, PJ X es ts ∧ ∀ {st B M F env ds st' acc out} {σ : L2.St} {H : Hp} (Q : Str → Hp → Prop), Rel Γ.K p st B M F env σ H → ea Γ.cl ies env st = some (ds, st') → joinD ds acc = some out →
    (∀ B' H', Ex B B' → Rel Γ.K p st' B' M F env σ H' → Q out H') → tJs ts acc σ H Q
  | _, _, .nil => ⟨[], .nil, fun {st B M F env ds st' acc out σ H} Q r he hj k => by
    unfold ea at he
    cases he
    cases hj
    exact k B H (Ex.refl B) r⟩
  | _, _, .lit (y := y) t hy => by
    obtain ⟨ts, h1, h2⟩ := sj_run o t
    refine ⟨_, .cons pe_str h1, fun {st B M F env ds st' acc out σ H} Q r he hj k => ?_⟩
    unfold ea at he
    unfold ev at he
    split at he
    · rename_i z st1 e1
      cases e1
      split at he
      · rename_i zs st2 e2
        cases he
        unfold joinD partD at hj
        simp only [Cst.d, if_pos hy] at hj
        split at hj
        · rename_i hl
          exact ⟨y, rfl, most_line hl, h2 Q r e2 hj k⟩
        · cases hj
      · cases he
    · cases he
  | _, _, .fmt h t => by
    obtain ⟨ts, h1, h2⟩ := sj_run o t
    refine ⟨_, .cons (pe_fmt (h X p o)) h1, fun {st B M F env ds st' acc out σ H} Q r he hj k => ?_⟩
    unfold ea at he
    split at he
    · rename_i z st1 e1
      split at he
      · rename_i zs st2 e2
        cases he
        refine ⟨st, B, M, F, env, z, st1, r, e1, fun v B1 H1 x1 r1 p1 => ?_⟩
        unfold joinD at hj
        cases p1 with
        | str y =>
          by_cases hy : y.length ≤ most
          · simp only [partD, if_pos hy] at hj
            split at hj
            · rename_i hl
              exact .inl ⟨y, rfl, most_line hy, y, rfl, most_line hl, h2 Q r1 e2 hj fun B' H' x2 r2 => k B' H' (x1.trans x2) r2⟩
            · cases hj
          · simp only [partD, if_neg hy] at hj
            cases hj
        | int n =>
          by_cases hn : n.natAbs.log2 < 1920
          · simp only [partD, if_pos hn] at hj
            split at hj
            · rename_i hl
              exact .inr ⟨n, rfl, hn, _, rfl, most_line hl, h2 Q r1 e2 hj fun B' H' x2 r2 => k B' H' (x1.trans x2) r2⟩
            · cases hj
          · simp only [partD, if_neg hn] at hj
            cases hj
        | _ => simp only [partD] at hj; cases hj
      · cases he
    · cases he
theorem js_se {e1 e2 : Expr} (h : SJ Γ (e1 :: e2 :: es) ies) : SE Γ (.JoinedStr (e1 :: e2 :: es) pos) (.js ies) := fun X p o => by
  obtain ⟨ts, h1, h2⟩ := sj_run o h
  refine PE_weak (pe_joined h1) fun σ H Q q => ?_
  obtain ⟨st, B, M, F, env, d, st', r, he, k⟩ := q
  unfold ev at he
  split at he
  · rename_i ds st1 e1
    obtain ⟨out, e3, e4⟩ := Option.map_eq_some_iff.mp he
    cases e4
    exact h2 _ r e1 e3 fun B' H' x r' => k _ B' H' x r' (.str _)
  · cases he
end
end Ip

set_option Elab.async false
set_option linter.all false
set_option maxRecDepth 100000
set_option maxHeartbeats 4000000
namespace Ip
open PySem L2
/-! What may raise: expressions. -/
def Txx (W : WX) (mg : Str → Option Value) (Γ : Gam) (p : Pa) (i : IE) : TE := fun σ H Q => ∃ st B M F env, Rel Γ.K p st B M F env σ H ∧
  ((∃ d st', ev Γ.cl i env st = some (d, st') ∧ ∀ v B' H', Ex B B' → Rel Γ.K p st' B' M F env σ H' → Rp Γ.K B' v d → Q v H') ∨
   (∃ er st', xv Γ.cl i env st = some (er, st') ∧ ∀ cls d B' H', Ex B B' → Rel Γ.K p st' B' M F env σ H' → Raised mg Γ.es Γ.K p B' (uni M F) er cls d H' → W cls (some d) σ H'))
def SX (Γ : Gam) (e : Expr) (i : IE) : Prop := ∀ X p W, Okx Γ X p → L2N.Takes X W → PE X e (Txx W X.mg Γ p i)
section
variable {Γ : Gam} {e a b c : Expr} {es : List Expr} {ia ib ic i : IE} {ies : IEs} {pos p0 : Pos} {x : Str} {W : WX} {mg : Str → Option Value}
theorem Txx.ok {σ : L2.St} {H : Hp} {Q : VK} (q : Tx Γ.K Γ.cl p i σ H Q) : Txx W mg Γ p i σ H Q := by
  obtain ⟨st, B, M, F, env, d, st', r, he, k⟩ := q
  exact ⟨st, B, M, F, env, r, .inl ⟨d, st', he, k⟩⟩
theorem Txx.mono {σ : L2.St} {H : Hp} {Q Q' : VK} (q : Txx W mg Γ p i σ H Q) (h : ∀ v H, Q v H → Q' v H) : Txx W mg Γ p i σ H Q' := by
  obtain ⟨st, B, M, F, env, r, q⟩ := q
  refine ⟨st, B, M, F, env, r, ?_⟩
  rcases q with ⟨d, st', he, k⟩ | q
  · exact .inl ⟨d, st', he, fun v B' H' x r' pv => h _ _ (k v B' H' x r' pv)⟩
  · exact .inr q
/-- what cannot raise -/
theorem sx_of (h : SE Γ e i) (hn : ∀ env st, xv Γ.cl i env st = none) : SX Γ e i := fun X p W o tk => PE_weak (h X p o) fun σ H Q q => by
  obtain ⟨st, B, M, F, env, r, q⟩ := q
  rcases q with ⟨d, st', he, k⟩ | ⟨er, st', he, _⟩
  · exact ⟨st, B, M, F, env, d, st', r, he, k⟩
  · rw [hn] at he
    cases he
theorem sx_call (h : SG Γ (e :: es) ies) (hh : Γ.hot = false := by rfl) (hf : Γ.xs.contains x = true := by rfl) (hg : GlS Γ.sc x := by rfl) (hdb : (x == ("__debug__" : Str)) = false := by decide)
    (he : ∀ env, starEach (e :: es) env = (false, eval e env) :: starEach es env := by intro _; rfl) (hpl : ∀ env, (backTo pos (starEach es env)).any (·.1) = false := by intro _; rfl) :
    SX Γ (.Call (.Name x p0) (e :: es) [] pos) (.call x ies) := fun X p W o tk => by
  obtain ⟨fa, fd, ps, k, F, hm, hk, hb, hr⟩ := o.xn hh x (List.contains_iff_mem.mp hf)
  refine PE_weak (pe_callS (E := WE W) F hr (o.gl hg) hm hk hb (fun σ => L2N.passAt tk σ) (h X p o) hdb (he _) (hpl _)) fun σ H Q q => ?_
  obtain ⟨st, B, M, F, env, r, q⟩ := q
  rcases q with ⟨d, st', he, k⟩ | ⟨er, st', he, k⟩
  · unfold ev at he
    cases e1 : ag Γ.cl ies env st with
    | none =>
      rw [e1] at he
      cases he
    | some ys =>
      obtain ⟨ys, st1⟩ := ys
      rw [e1] at he
      exact ⟨st, B, M, F, env, ys, st1, r, e1, fun vs B1 H1 x1 r1 p1 => ⟨p.o, st1, B1, uni M F, ys, ⟨rfl, rfl, rfl⟩, r1.call.o, p1.o, .inl ⟨d, st', he, fun v B' H' x2 w pv => k v B' H' (x1.trans x2) (r1.back x2 w.u) pv⟩⟩⟩
  · unfold xv at he
    cases e1 : ag Γ.cl ies env st with
    | none =>
      rw [e1] at he
      cases he
    | some ys =>
      obtain ⟨ys, st1⟩ := ys
      simp only [e1] at he
      cases e2 : Γ.cl (bang x) ys st1 with
      | none =>
        rw [e2] at he
        cases he
      | some z =>
        obtain ⟨z, st2⟩ := z
        rw [e2] at he
        obtain ⟨er', e3, e4⟩ := Option.map_eq_some_iff.mp he
        cases e4
        exact ⟨st, B, M, F, env, ys, st1, r, e1, fun vs B1 H1 x1 r1 p1 => ⟨p.o, st1, B1, uni M F, ys, ⟨rfl, rfl, rfl⟩, r1.call.o, p1.o, .inr ⟨z, _, _, e2, e3, fun cls d B' H' x2 w rz => k cls d B' H' (x1.trans x2) (r1.back x2 w.u) rz⟩⟩⟩
/-- two operands that may raise -/
theorem txx_two {r : R2} {σ : L2.St} {H : Hp} {Q : VK} {f : D → D → Option D} (hi : ∀ env st, ev Γ.cl i env st = (match ev Γ.cl ia env st with
    | some (x, st1) => (match ev Γ.cl ib env st1 with
      | some (y, st2) => (f x y).map fun d => (d, st2)
      | none => none)
    | none => none))
    (hx : ∀ env st, xv Γ.cl i env st = (match xv Γ.cl ia env st with
    | some r => some r
    | none => (match ev Γ.cl ia env st with
      | some (_, st1) => xv Γ.cl ib env st1
      | none => none)))
    (hr : ∀ {st B M F env x y z v u H}, Rel Γ.K p st B M F env σ H → Rp Γ.K B v x → Rp Γ.K B u y → f x y = some z → ∀ Q : VK, (∀ w B' H', Ex B B' → Rel Γ.K p st B' M F env σ H' → Rp Γ.K B' w z → Q w H') → r v u H Q)
    (q : Txx W mg Γ p i σ H Q) : tOp r (Txx W mg Γ p ia) (Txx W mg Γ p ib) σ H Q := by
  obtain ⟨st, B, M, F, env, rl, q⟩ := q
  rcases q with ⟨d, st', he, k⟩ | ⟨er, st', he, k⟩
  · rw [hi] at he
    cases e1 : ev Γ.cl ia env st with
    | none =>
      rw [e1] at he
      cases he
    | some xs =>
      obtain ⟨x, st1⟩ := xs
      rw [e1] at he
      cases e2 : ev Γ.cl ib env st1 with
      | none =>
        simp only [e2] at he
        cases he
      | some ys =>
        obtain ⟨y, st2⟩ := ys
        simp only [e2] at he
        obtain ⟨z, e3, e4⟩ := Option.map_eq_some_iff.mp he
        cases e4
        exact ⟨st, B, M, F, env, rl, .inl ⟨x, st1, e1, fun v B1 H1 x1 r1 p1 => ⟨st1, B1, M, F, env, r1, .inl ⟨y, _, e2, fun u B2 H2 x2 r2 p2 =>
          hr r2 (p1.mono x2) p2 e3 Q fun w B' H' x3 r3 p3 => k w B' H' ((x1.trans x2).trans x3) r3 p3⟩⟩⟩⟩
  · rw [hx] at he
    cases e1 : xv Γ.cl ia env st with
    | some w =>
      rw [e1] at he
      cases he
      exact ⟨st, B, M, F, env, rl, .inr ⟨er, st', e1, k⟩⟩
    | none =>
      rw [e1] at he
      cases e2 : ev Γ.cl ia env st with
      | none =>
        simp only [e2] at he
        cases he
      | some xs =>
        obtain ⟨x, st1⟩ := xs
        simp only [e2] at he
        exact ⟨st, B, M, F, env, rl, .inl ⟨x, st1, e2, fun v B1 H1 x1 r1 p1 => ⟨st1, B1, M, F, env, r1, .inr ⟨er, st', he, fun cls d B' H' x2 r2 z => k cls d B' H' (x1.trans x2) r2 z⟩⟩⟩⟩
theorem sx_cmp {op : CmpOp} {o : Cop} (C : CmpOk op o) (ha : SX Γ a ia) (hb : SX Γ b ib) (hm : behindInMarks op b = false) : SX Γ (.Compare a [op] [b] pos) (.cmp o ia ib) := fun X p W ok tk =>
  PE_weak (pe_cmpR (C.ok X (by have := ok.units; omega)) (ha X p W ok tk) (hb X p W ok tk) hm) fun σ H Q q => by
    rw [ok.K]
    refine txx_two (f := fun x y => (cmpD o x y).map PyData.bool) (fun env st => ?_) (fun env st => rfl) ?_ q
    · have e0 : ev Γ.cl (.cmp o ia ib) env st = (match ev Γ.cl ia env st with
        | some (x, st1) => (match ev Γ.cl ib env st1 with
          | some (y, st2) => (cmpD o x y).map fun d => (.bool d, st2)
          | none => none)
        | none => none) := id rfl
      rw [e0]
      cases ev Γ.cl ia env st with
      | none => rfl
      | some xs =>
        cases h : ev Γ.cl ib env xs.2 with
        | none => simp only [h]
        | some ys =>
          simp only [h]
          cases cmpD o xs.1 ys.1 <;> rfl
    · intro st B M F env x y z v u H r1 p1 p2 e Q k
      obtain ⟨w, e3, e4⟩ := Option.map_eq_some_iff.mp e
      subst e4
      exact C.rd r1 p1 p2 e3 Q (k _ B H (Ex.refl B) r1 (.bl _))
end
end Ip

set_option Elab.async false
set_option linter.all false
set_option maxRecDepth 100000
set_option maxHeartbeats 4000000
namespace Ip
open PySem L2
/-! What may raise: statements. -/
/-- what is wanted of an error that leaves a statement -/
def ErrK2 (W : WX) (mg : Str → Option Value) (Γ : Gam) (p : Pa) (B F : Hp) (er : Er) (env : List Sl) (st : Pl) : Prop := ∀ cls d B' M' σ' H', Ex B B' → Rel Γ.K p st B' M' F env σ' H' → Raised mg Γ.es Γ.K p B' (uni M' F) er cls d H' → W cls (some d) σ' H'
def TS1x (W : WX) (mg : Str → Option Value) (Γ : Gam) (p : Pa) (s : IS) : TS := fun D σ H => ∃ st B M F env, Rel Γ.K p st B M F env σ H ∧
  ((∃ o, evS Γ.cl s env st = some o ∧ OutK Γ.K p B F D o) ∨ (∃ er env1 st1, xvS Γ.cl s env st = some (er, env1, st1) ∧ ErrK2 W mg Γ p B F er env1 st1))
def TSsx (W : WX) (mg : Str → Option Value) (Γ : Gam) (p : Pa) (s : ISs) : TS := fun D σ H => ∃ st B M F env, Rel Γ.K p st B M F env σ H ∧
  ((∃ o, evSs Γ.cl s env st = some o ∧ OutK Γ.K p B F D o) ∨ (∃ er env1 st1, xvSs Γ.cl s env st = some (er, env1, st1) ∧ ErrK2 W mg Γ p B F er env1 st1))
def SSX (Γ : Gam) (s : Stmt) (i : IS) : Prop := ∀ X p W, Oks Γ X p → L2N.Takes X W → PS X s (TS1x W X.mg Γ p i)
def SSsX (Γ : Gam) (s : List Stmt) (i : ISs) : Prop := ∀ X p W, Oks Γ X p → L2N.Takes X W → PSs X s (TSsx W X.mg Γ p i)
section
variable {Γ : Gam} {e a b c : Expr} {es : List Expr} {ia ib ic i : IE} {ies : IEs} {pos pos' p0 p1 p2 : Pos} {x : Str} {W : WX} {mg : Str → Option Value} {s : Stmt} {ss : List Stmt} {is : IS} {iss : ISs}
theorem ErrK2.mono {p : Pa} {B B' F : Hp} {er : Er} {env : List Sl} {st : Pl} (h : ErrK2 W mg Γ p B F er env st) (x : Ex B B') : ErrK2 W mg Γ p B' F er env st := fun cls d B2 M2 σ2 H2 x2 r z => h cls d B2 M2 σ2 H2 (x.trans x2) r z
/-- what cannot raise -/
theorem ssx_calm (h : SS Γ s is) : SSX Γ s (.calm is) := fun X p W o tk => PS_weak (h X p o) fun D σ H q => by
  obtain ⟨st, B, M, F, env, r, q⟩ := q
  rcases q with ⟨out, he, k⟩ | ⟨er, env1, st1, he, _⟩
  · unfold evS at he
    exact ⟨st, B, M, F, env, out, r, he, k⟩
  · unfold xvS at he
    cases he
theorem sssx_nil : SSsX Γ [] .nil := fun X p W o tk => PSs_weak pss_nil fun D σ H q => by
  obtain ⟨st, B, M, F, env, r, q⟩ := q
  rcases q with ⟨out, he, k⟩ | ⟨er, env1, st1, he, _⟩
  · unfold evSs at he
    cases he
    exact k B M σ H (Ex.refl B) r
  · unfold xvSs at he
    cases he
theorem sssx_cons (h : SSX Γ s is) (hr : SSsX Γ ss iss) : SSsX Γ (s :: ss) (.cons is iss) := fun X p W o tk => PSs_weak (pss_cons (h X p W o tk) (hr X p W o tk)) fun D σ H q => by
  obtain ⟨st, B, M, F, env, r, q⟩ := q
  rcases q with ⟨out, he, k⟩ | ⟨er, env1, st1, he, k⟩
  · unfold evSs at he
    split at he
    · rename_i env2 st2 e1
      exact ⟨st, B, M, F, env, r, .inl ⟨_, e1, fun B' M' σ' H' x r' => ⟨st2, B', M', F, env2, r', .inl ⟨out, he, k.mono x⟩⟩⟩⟩
    · rename_i o1 hn e1
      cases he
      refine ⟨st, B, M, F, env, r, .inl ⟨_, e1, ?_⟩⟩
      cases out with
      | nx env1 st1 => exact (hn env1 st1 rfl).elim
      | rt d st1 => exact k
      | bk env1 st1 => exact k
      | ct env1 st1 => exact k
    · cases he
  · unfold xvSs at he
    split at he
    · rename_i z e1
      cases he
      exact ⟨st, B, M, F, env, r, .inr ⟨_, _, _, e1, k⟩⟩
    · split at he
      · rename_i env2 st2 e2
        exact ⟨st, B, M, F, env, r, .inl ⟨_, e2, fun B' M' σ' H' x r' => ⟨st2, B', M', F, env2, r', .inr ⟨er, env1, st1, he, k.mono x⟩⟩⟩⟩
      · cases he
theorem ssx_set (j : Nat) (h : SX Γ e i) (hN : Γ.N[j]? = some x := by rfl) (hl : Loc Γ.sc x := by first | exact Or.inl rfl | exact Or.inr rfl) (hs : ∀ env, swapsWith e (some (.Name x p0)) pos.line env = pure false := by intro _; rfl) : SSX Γ (.Assign [.Name x p0] e pos) (.set j i) := fun X p W o tk =>
  PS_weak (ps_set (i := j) (by rw [o.N]; exact o.nd) (by rw [o.N]; exact hN) (by rw [o.sc]; exact hl) (h X p W o.toOkx tk) (hs _) (.inl (o.fnx x))) fun D σ H q => by
    obtain ⟨st, B, M, F, env, r, q⟩ := q
    rcases q with ⟨out, he, k⟩ | ⟨er, env1, st1, he, k⟩
    · unfold evS at he
      split at he
      · rename_i d st1 e1
        cases he
        exact ⟨st, B, M, F, env, r, .inl ⟨d, st1, e1, fun v B' H' x r' pv => k B' M _ H' x (r'.set pv j)⟩⟩
      · cases he
    · obtain ⟨⟨er', st2⟩, e1, e2⟩ := Option.map_eq_some_iff.mp (show (xv Γ.cl i env st).map (fun r => (r.1, env, r.2)) = some (er, env1, st1) from he)
      cases e2
      exact ⟨st, B, M, F, env, r, .inr ⟨er', st2, e1, fun cls d B' H' x r' z => k cls d B' M σ H' x r' z⟩⟩
theorem ssx_ret (h : SX Γ e i) (hfr : Γ.fr = false := by rfl) : SSX Γ (.Return (some e) pos) (.ret i) := fun X p W o tk => PS_weak (ps_ret (h X p W o.toOkx tk)) fun D σ H q => by
  obtain ⟨st, B, M, F, env, r, q⟩ := q
  rcases q with ⟨out, he, k⟩ | ⟨er, env1, st1, he, k⟩
  · unfold evS at he
    split at he
    · rename_i d st1 e1
      cases he
      exact ⟨st, B, M, F, env, r, .inl ⟨d, st1, e1, fun v B' H' x r' pv => k v B' H' x r'.bs (by rw [RtV.f (o.fr.trans hfr)]; exact pv)⟩⟩
    · cases he
  · obtain ⟨⟨er', st2⟩, e1, e2⟩ := Option.map_eq_some_iff.mp (show (xv Γ.cl i env st).map (fun r => (r.1, env, r.2)) = some (er, env1, st1) from he)
    cases e2
    exact ⟨st, B, M, F, env, r, .inr ⟨er', st2, e1, fun cls d B' H' x r' z => k cls d B' M σ H' x r' z⟩⟩
theorem ssx_drop (h : SX Γ e i) (hs : ∀ env, swapsWith e none pos.line env = pure false := by intro _; rfl) : SSX Γ (.Expr e pos) (.drop i) := fun X p W o tk => PS_weak (ps_expr (h X p W o.toOkx tk) (hs _)) fun D σ H q => by
  obtain ⟨st, B, M, F, env, r, q⟩ := q
  rcases q with ⟨out, he, k⟩ | ⟨er, env1, st1, he, k⟩
  · unfold evS at he
    split at he
    · rename_i d st1 e1
      cases he
      exact ⟨st, B, M, F, env, r, .inl ⟨d, st1, e1, fun v B' H' x r' pv => k B' M σ H' x r'⟩⟩
    · cases he
  · obtain ⟨⟨er', st2⟩, e1, e2⟩ := Option.map_eq_some_iff.mp (show (xv Γ.cl i env st).map (fun r => (r.1, env, r.2)) = some (er, env1, st1) from he)
    cases e2
    exact ⟨st, B, M, F, env, r, .inr ⟨er', st2, e1, fun cls d B' H' x r' z => k cls d B' M σ H' x r' z⟩⟩
theorem ssx_iff {sa sb : List Stmt} {xa xb : ISs} (hc : ST Γ c ic) (ha : SSsX Γ sa xa) (hb : SSsX Γ sb xb) : SSX Γ (.If c sa sb pos) (.iff ic xa xb) := fun X p W o tk => PS_weak (ps_if (hc X p o.toOkx) (ha X p W o tk) (hb X p W o tk)) fun D σ H q => by
  obtain ⟨st, B, M, F, env, r, q⟩ := q
  rcases q with ⟨out, he, k⟩ | ⟨er, env1, st1, he, k⟩
  · unfold evS at he
    split at he
    · rename_i st1 e1
      exact ⟨st, B, M, F, env, true, st1, r, e1, fun B' H' x r' => iteT ⟨st1, B', M, F, env, r', .inl ⟨out, he, k.mono x⟩⟩⟩
    · rename_i st1 e1
      exact ⟨st, B, M, F, env, false, st1, r, e1, fun B' H' x r' => iteF ⟨st1, B', M, F, env, r', .inl ⟨out, he, k.mono x⟩⟩⟩
    · cases he
  · unfold xvS at he
    split at he
    · rename_i st2 e1
      exact ⟨st, B, M, F, env, true, st2, r, e1, fun B' H' x r' => iteT ⟨st2, B', M, F, env, r', .inr ⟨er, env1, st1, he, k.mono x⟩⟩⟩
    · rename_i st2 e1
      exact ⟨st, B, M, F, env, false, st2, r, e1, fun B' H' x r' => iteF ⟨st2, B', M, F, env, r', .inr ⟨er, env1, st1, he, k.mono x⟩⟩⟩
    · cases he
/-- raise E(e) -/
theorem errOk_v {K : PySem.W.Frag} {B : Hp} {v : V} {d : D} (p : Rp K B v d) (h : errOk d = true) : ErrV v := by
  cases p with
  | str y => exact .inl ⟨y, rfl, of_decide_eq_true h⟩
  | int n =>
    have h2 : (decide (n.natAbs.log2 < 1920) && decide ((toString n : String).toList.length ≤ 1000)) = true := h
    simp only [Bool.and_eq_true, decide_eq_true_eq] at h2
    exact .inr ⟨n, rfl, h2.1, h2.2⟩
  | _ => cases h
theorem ssx_rse {fld : Str} (h : SE Γ e i) (hf : (x, fld) ∈ Γ.es) (hh : Γ.hot = false := by rfl) (hc : GlS Γ.sc x := by rfl) (hdb : (x == ("__debug__" : Str)) = false := by decide) (hs : ∀ env, starEach [e] env = (false, eval e env) :: starEach [] env := by intro _; rfl)
    : SSX Γ (.Raise (some (.Call (.Name x p0) [e] [] pos)) none pos') (.rse x i) := fun X p W o tk => by
  obtain ⟨C, ec⟩ := o.er hh _ hf
  refine PS_weak (L2N.ps_raise (o.calm hh) tk (pmk_err1 ec (o.gl hc) ((sa_cons h sa_nil hs) X p o.toOkx) hdb (hs _) rfl)) fun D σ H q => ?_
  obtain ⟨st, B, M, F, env, r, q⟩ := q
  rcases q with ⟨out, he, k⟩ | ⟨er, env1, st1, he, k⟩
  · unfold evS at he
    cases he
  · unfold xvS at he
    split at he
    · rename_i v st2 e1
      split at he
      · rename_i hok
        cases he
        refine ⟨st, B, M, F, env, [v], _, r, by unfold ea; rw [e1]; rfl, fun vs B' H' x1 r' pv => ?_⟩
        cases pv with
        | cons p1 p2 =>
          cases p2
          refine mk_in (C := C) (fld := fld) (H1 := H') (Q := fun cls d H' => W cls d σ H') (errOk_v p1 hok) fun d hd => ?_
          obtain ⟨f1, f2, f3, f4⟩ := r'.freshM hd
          refine k _ _ B' M σ _ x1 (r'.more hd) ⟨C, fld, _, hf, ec.mg, rfl, upd_same, p1, f1, ?_, f4⟩
          rw [uni_r f2]
          exact f3
      · cases he
    · cases he
end
end Ip

set_option Elab.async false
set_option linter.all false
set_option maxRecDepth 100000
set_option maxHeartbeats 4000000
namespace Ip
open PySem L2
/-! Defs that may raise. -/
/-- what a def's body raises, as what its name with the mark comes to -/
def runX (n : Nat) (cl : Cl) (f : IF) (as : List (Option D)) (st : Pl) : Option (D × Pl) := if as.length = n then
  (match xvSs cl f.body (as.map slOf ++ List.replicate (f.n - as.length) .no) st with
  | some (er, _, st1) => some (erD er, st1)
  | none => none) else none
theorem erOf_erD (er : Er) : erOf (erD er) = some er := rfl
theorem fnx_ok {P : Program} {w : World} {K : PySem.W.Frag} {mg : Str → Option Value} {base : Heap} {x qual : Str} {params : Arguments} {body : List Stmt} {scope : Scope} {f : Addr} {fd : FuncData} {N ps : List Str} {k : Nat} {Γ : Gam} {I : IF} {cl : Cl} {g : Str}
    {dvs : List V} {kws : List (Str × V)} (F : FunD K x qual params body scope dvs kws f fd) (S : FnScope N ps scope) (hh : Γ.hot = false) (hK : Γ.K = K) (hN : Γ.N = N) (hsc : Γ.sc = scope) (hb : SSsX Γ body I.body) (hn : I.n = N.length)
    (hcl : ∀ as st, cl g as st = runI ps.length Γ.cl I as st) (hcx : ∀ as st, cl (bang g) as st = runX ps.length Γ.cl I as st)
    (av : Av P w K mg base k Γ) (hio : Γ.io = none := by rfl) (hfr : Γ.fr = false := by rfl) :
    FnOk P w K mg base (L2N.CX P w) (k + 1) f fd ps (spG mg Γ.es K cl g) := by
  refine F.ok S (fun vs H Q E h => ?_) (fun cdv A outer s H vs Q E hr h => ?_)
  · obtain ⟨p, st, B, F, as, _, _, ha, q⟩ := h
    rw [ha.length]
    rcases q with ⟨d, st', e, _⟩ | ⟨dd, er, st', e, _⟩
    · rw [hcl] at e
      unfold runI at e
      split at e
      · assumption
      · cases e
    · rw [hcx] at e
      unfold runX at e
      split at e
      · assumption
      · cases e
  · obtain ⟨p, st, B, F0, as, hl, w1, ha, q⟩ := h
    refine ⟨_, hb _ p (fun cls d _ H' => E cls d H') (av.oks hh hK hN S.nd hsc hl.lk (by rw [hl.io, hio]; rfl) (hl.fr.trans hfr.symm) hr) (L2N.takes_of rfl rfl rfl rfl), ?_⟩
    have rl := rel_start (N := N) w1 ha
    have hmg : (cxOf (L2N.CX P w) P w K mg base N qual scope f cdv A outer s H E).mg = mg := rfl
    rw [hmg]
    subst hK
    refine ⟨st, B, fun _ => none, F0, as.map slOf ++ List.replicate (N.length - as.length) .no, rl, ?_⟩
    rcases q with ⟨d, st', e, kk⟩ | ⟨dd, er, st', e, e2, kk⟩
    · rw [hcl] at e
      unfold runI at e
      split at e
      · unfold runF at e
        rw [hn] at e
        cases e1 : evSs Γ.cl I.body (as.map slOf ++ List.replicate (N.length - as.length) .no) st with
        | none =>
          rw [e1] at e
          cases e
        | some o =>
          rw [e1] at e
          refine .inl ⟨o, rfl, ?_⟩
          cases o with
          | rt d2 st2 =>
            cases e
            exact fun v B' H' x r pv => kk v B' H' x r (by rw [RtV.f hl.fr] at pv; exact pv)
          | nx env2 st2 =>
            cases e
            exact fun B' M' σ' H' x r => kk .non B' H' x r.bs .non
          | bk env2 st2 => cases e
          | ct env2 st2 => cases e
      · cases e
    · rw [hcx] at e
      unfold runX at e
      split at e
      · rw [hn] at e
        cases e1 : xvSs Γ.cl I.body (as.map slOf ++ List.replicate (N.length - as.length) .no) st with
        | none =>
          rw [e1] at e
          cases e
        | some z =>
          obtain ⟨er1, env1, st1⟩ := z
          rw [e1] at e
          cases e
          rw [erOf_erD] at e2
          cases e2
          refine .inr ⟨_, env1, _, rfl, fun cls d B' M' σ' H' x r z => kk cls d B' H' x r.bs ?_⟩
          obtain ⟨C, fld, u, z1, z2, z3, z4, z5, z6, z7, z8⟩ := z
          refine ⟨C, fld, u, z1, z2, z3, z4, z5, z6, ?_, z8⟩
          cases hm : M' d with
          | none => rw [uni_r hm] at z7; exact z7
          | some o => rw [uni_l hm] at z7; cases z7
      · cases e
end Ip

set_option Elab.async false
set_option linter.all false
set_option maxRecDepth 100000
set_option maxHeartbeats 4000000
namespace Ip
open PySem L2
/-! try, the caught error's field and class. -/
section
variable {K : PySem.W.Frag} {p : Pa} {st : Pl} {B M F : Hp} {env : List Sl} {σ : L2.St} {H : Hp}
/-- the same pool, another caught error -/
def Pa.with_ (p : Pa) (l : Addr → Addr → Str → Str → Prop) : Pa := ⟨p.a, p.q, l, p.io, p.fr⟩
theorem Bs.with_ {l : Addr → Addr → Str → Str → Prop} (w : Bs p st B F H) : Bs (p.with_ l) st B F H := ⟨w.b, w.f, w.d, w.pf, w.pb, w.pl⟩
theorem Bs.without {l : Addr → Addr → Str → Str → Prop} (w : Bs (p.with_ l) st B F H) : Bs p st B F H := ⟨w.b, w.f, w.d, w.pf, w.pb, w.pl⟩
theorem SlR.cln {l : Addr → Addr → Str → Str → Prop} : ∀ {s : Sl} {o : Option V}, SlR K (p.with_ l) B M s o → SlR K p B M (cln s) o
  | .no, _, _ => True.intro
  | .im _, some _, h => h
  | .im _, none, h => h
  | .ow _, some (.ref _), h => h
  | .ow _, some .non, h | .ow _, some (.bl _), h | .ow _, some (.int _), h | .ow _, some (.str _), h | .ow _, some (.byt _), h | .ow _, some (.flt _), h | .ow _, some (.ty _), h | .ow _, none, h => h
  | .pl, some (.ref _), h => h
  | .pl, some .non, h | .pl, some (.bl _), h | .pl, some (.int _), h | .pl, some (.str _), h | .pl, some (.byt _), h | .pl, some (.flt _), h | .pl, some (.ty _), h | .pl, none, h => h
  | .er _ _, _, _ => True.intro
theorem cln_ow {s : Sl} {ds : List D} (h : cln s = .ow ds) : s = .ow ds := by
  cases s <;> first | exact h | cases h
/-- the suite's end: its name is gone -/
theorem EnR.cln {l : Addr → Addr → Str → Str → Prop} (h : EnR K (p.with_ l) B M env σ) (j : Nat) : EnR K p B M (clnE j env) (σ.set j none) where
  len := by
    unfold clnE
    rw [List.length_set, List.length_map, List.length_set]
    exact h.len
  at_ := fun i s hi => by
    unfold clnE at hi
    by_cases e : j = i
    · subst e
      have hl : j < (env.map Ip.cln).length := by
        have := (List.getElem?_eq_some_iff.mp hi).1
        rw [List.length_set] at this
        exact this
      rw [List.getElem?_set_self hl] at hi
      cases hi
      exact ⟨none, List.getElem?_set_self (by rw [← h.len]; rw [List.length_map] at hl; exact hl), True.intro⟩
    · rw [List.getElem?_set_ne e, List.getElem?_map] at hi
      obtain ⟨s0, h1, rfl⟩ := Option.map_eq_some_iff.mp hi
      obtain ⟨o, h2, h3⟩ := h.at_ i s0 h1
      exact ⟨o, by rw [List.getElem?_set_ne e]; exact h2, h3.cln⟩
  ap := fun i k ds es a hi hk si sk => by
    have old : ∀ {i : Nat} {ds : List D}, (clnE j env)[i]? = some (.ow ds) → j ≠ i ∧ env[i]? = some (.ow ds) := fun {i ds} hi => by
      unfold clnE at hi
      by_cases e : j = i
      · subst e
        have hl : j < (env.map Ip.cln).length := by
          have := (List.getElem?_eq_some_iff.mp hi).1
          rw [List.length_set] at this
          exact this
        rw [List.getElem?_set_self hl] at hi
        cases hi
      · rw [List.getElem?_set_ne e, List.getElem?_map] at hi
        obtain ⟨s0, h1, h2⟩ := Option.map_eq_some_iff.mp hi
        exact ⟨e, by rw [h1, cln_ow h2]⟩
    obtain ⟨n1, o1⟩ := old hi
    obtain ⟨n2, o2⟩ := old hk
    rw [List.getElem?_set_ne n1] at si
    rw [List.getElem?_set_ne n2] at sk
    exact h.ap i k ds es a o1 o2 si sk
  io := fun i a ds hp hi => by
    unfold clnE at hi
    by_cases e : j = i
    · subst e
      have hl : j < (env.map Ip.cln).length := by
        have := (List.getElem?_eq_some_iff.mp hi).1
        rw [List.length_set] at this
        exact this
      rw [List.getElem?_set_self hl] at hi
      cases hi
    · rw [List.getElem?_set_ne e, List.getElem?_map] at hi
      obtain ⟨s0, h1, h2⟩ := Option.map_eq_some_iff.mp hi
      rw [List.getElem?_set_ne e]
      exact h.io i a ds hp (by rw [h1, cln_ow h2])
theorem Rel.cln {l : Addr → Addr → Str → Str → Prop} (r : Rel K (p.with_ l) st B M F env σ H) (j : Nat) : Rel K p st B M F (clnE j env) (σ.set j none) H := ⟨r.bs.without, r.m, r.md, r.en.cln j⟩
/-- the suite's start: no error was spoken of, now one is -/
theorem SlR.with_ {l : Addr → Addr → Str → Str → Prop} (hn : p.lk = noLk) : ∀ {s : Sl} {o : Option V}, SlR K p B M s o → SlR K (p.with_ l) B M s o
  | .no, _, _ => True.intro
  | .im _, some _, h => h
  | .im _, none, h => h
  | .ow _, some (.ref _), h => h
  | .ow _, some .non, h | .ow _, some (.bl _), h | .ow _, some (.int _), h | .ow _, some (.str _), h | .ow _, some (.byt _), h | .ow _, some (.flt _), h | .ow _, some (.ty _), h | .ow _, none, h => h
  | .pl, some (.ref _), h => h
  | .pl, some .non, h | .pl, some (.bl _), h | .pl, some (.int _), h | .pl, some (.str _), h | .pl, some (.byt _), h | .pl, some (.flt _), h | .pl, some (.ty _), h | .pl, none, h => h
  | .er _ _, _, h => by
    obtain ⟨a, dd, f, u, _, h2, _⟩ := h
    rw [hn] at h2
    exact h2.elim
theorem Rel.caught {l : Addr → Addr → Str → Str → Prop} (r : Rel K p st B M F env σ H) (hn : p.lk = noLk) {j : Nat} {a dd : Addr} {c f : Str} {u : V} {v : D} (hl : l a dd c f) (hd : B dd = some (.xd [(f, u)])) (pv : Rp K B u v) :
    Rel K (p.with_ l) st B M F (env.set j (.er c v)) (σ.set j (some (.ref a))) H where
  bs := r.bs.with_
  m := r.m
  md := r.md
  en := {
    len := by rw [List.length_set, List.length_set]; exact r.en.len
    at_ := fun i s hi => by
      by_cases e : j = i
      · subst e
        have hlt : j < env.length := by
          have := (List.getElem?_eq_some_iff.mp hi).1
          rw [List.length_set] at this
          exact this
        rw [List.getElem?_set_self hlt] at hi
        cases hi
        exact ⟨some (.ref a), List.getElem?_set_self (by rw [← r.en.len]; exact hlt), a, dd, f, u, rfl, hl, hd, pv⟩
      · rw [List.getElem?_set_ne e] at hi
        obtain ⟨o, h1, h2⟩ := r.en.at_ i s hi
        exact ⟨o, by rw [List.getElem?_set_ne e]; exact h1, h2.with_ hn⟩
    ap := fun i k ds es b hi hk si sk => by
      have hne : ∀ {i : Nat} {ds : List D}, (env.set j (.er c v))[i]? = some (.ow ds) → j ≠ i := fun {i ds} hi e => by
        subst e
        have hlt : j < env.length := by
          have := (List.getElem?_eq_some_iff.mp hi).1
          rw [List.length_set] at this
          exact this
        rw [List.getElem?_set_self hlt] at hi
        cases hi
      have n1 := hne hi
      have n2 := hne hk
      rw [List.getElem?_set_ne n1] at hi si
      rw [List.getElem?_set_ne n2] at hk sk
      exact r.en.ap i k ds es b hi hk si sk
    io := fun i b ds hp hi => by
      by_cases e : j = i
      · subst e
        have hlt : j < env.length := by
          have := (List.getElem?_eq_some_iff.mp hi).1
          rw [List.length_set] at this
          exact this
        rw [List.getElem?_set_self hlt] at hi
        cases hi
      · rw [List.getElem?_set_ne e] at hi ⊢
        exact r.en.io i b ds hp hi }
end
section
variable {Γ : Gam} {X : Cx} {p : Pa}
/-- within a try's body -/
theorem Oks.tr (o : Oks Γ X p) (hh : Γ.hot = false) {pn : List (Addr × Obj)} {xe : Value → Shared → Prop} (hp : PassesOwn (model X.prog X.w) X.A X.env xe) : Oks Γ (X.tr pn xe) p where
  K := o.K
  N := o.N
  nd := o.nd
  sc := o.sc
  calm := o.calm
  hotc := fun z => by
    rw [hh] at z
    cases z
  units := o.units
  fn := o.fn
  fnh := o.fnh
  bl := o.bl
  xn := o.xn
  er := fun z q hq => by
    obtain ⟨C, h⟩ := o.er z q hq
    exact ⟨C, h.mg, h.oex, h.def_⟩
  df := o.df
  gn := o.gn
  lk := o.lk
  lkh := fun a dd c f h => by
    rw [o.lk hh] at h
    exact h.elim
  ef := ⟨o.ef.cl, o.ef.ki, o.ef.tr, o.ef.gc⟩
  own := hp
  stk := o.stk
  frm := o.frm
  fnx := o.fnx
  io := o.io
  fr := o.fr
  fi := o.fi
  ff := o.ff
/-- what is known within a suite -/
def Gam.su (Γ : Gam) : Gam := { Γ with hot := true }
/-- the error that a suite holds -/
def suLk (Γ : Gam) (mg : Str → Option Value) (a : Addr) (cls : Value) (d : Option Addr) : Addr → Addr → Str → Str → Prop := fun a' dd c f => a' = a ∧ d = some dd ∧ (c, f) ∈ Γ.es ∧ ∃ C, mg c = some (.ref C) ∧ cls = .ref C
theorem Oks.su (o : Oks Γ X p) (hh : Γ.hot = false) {a : Addr} {oe : Obj} {cls : Value} {d : Option Addr} {pn : List (Addr × Obj)} (hz : L2N.Zn cls d oe) (hf : ∃ vs, oe.data = .fields vs) :
    Oks Γ.su (X.suite a ((a, oe) :: pn)) (p.with_ (suLk Γ X.mg a cls d)) where
  K := o.K
  N := o.N
  nd := o.nd
  sc := o.sc
  calm := fun z => by cases z
  hotc := fun _ => by
    obtain ⟨vs, hv⟩ := hf
    exact ⟨(a, oe), ⟨rfl, vs, hv, hz.2.2 vs hv⟩, List.mem_cons_self⟩
  units := o.units
  fn := fun z => by cases z
  fnh := fun f hf => by
    obtain ⟨fa, fd, ps, k, h1, h2, h3, h4, h5⟩ := o.fnh f hf
    exact ⟨fa, fd, ps, k, h1, h2, h3, h4, ⟨h5.dp, h5.un⟩⟩
  bl := o.bl
  xn := fun z => by cases z
  er := fun z => by cases z
  df := fun z => by cases z
  gn := fun z => by cases z
  lk := fun z => by cases z
  lkh := fun a' dd c f h => by
    obtain ⟨rfl, rfl, h3, C, h4, rfl⟩ := h
    exact ⟨h3, ⟨X, oe, pn, C, rfl, hz.zc, hf, h4⟩⟩
  ef := ⟨o.ef.cl, o.ef.ki, o.ef.tr, o.ef.gc⟩
  own := PassesOwn.never
  stk := o.stk
  frm := o.frm
  fnx := o.fnx
  io := o.io
  fr := o.fr
  fi := fun z => by cases z
  ff := fun z => by cases z
end
section
variable {Γ : Gam} {e a b c : Expr} {es : List Expr} {pos p0 p1 p2 np pos' : Pos} {x n f : Str} {body suite : List Stmt} {b₀ : Stmt} {ib iu : ISs}
theorem takes0 {X : Cx} : L2N.Takes X (fun _ _ _ _ => False) := fun u s' ⟨_, _, _, _, _, _, _, _, _, _, _, _, _, _, _, _, z⟩ => z.elim
theorem out_un {K : PySem.W.Frag} {p : Pa} {l : Addr → Addr → Str → Str → Prop} {B F : Hp} {D : Ends} {j : Nat} : ∀ {o : Out}, OutK K p B F D (o.un j) → OutK K (p.with_ l) B F { nx := fun σ' H' => D.nx (σ'.set j none) H', rt := D.rt, bk := fun σ' H' => D.bk (σ'.set j none) H', ct := fun σ' H' => D.ct (σ'.set j none) H' } o
  | .nx _ _, h => fun B' M σ H x r => h B' M (σ.set j none) H x (r.cln j)
  | .rt _ _, h => fun v B' H x w pv => h v B' H x w.without pv
  | .bk _ _, h => fun B' M σ H x r => h B' M (σ.set j none) H x (r.cln j)
  | .ct _ _, h => fun B' M σ H x r => h B' M (σ.set j none) H x (r.cln j)
/-- try: body, except x as n: suite: an error of a class in cs is caught -/
theorem ss_tri (j : Nat) (cs : List Str) (hb : SSsX Γ body ib) (hu : SSs Γ.su (b₀ :: suite) iu) (hh : Γ.hot = false := by rfl) (hN : Γ.N[j]? = some n := by rfl) (hl : Γ.sc.names.lookup n = some .local := by rfl) (hg : GlS Γ.sc x := by rfl)
    (hx : cs.all (fun c => Γ.ts.contains (c, x, true)) = true := by rfl) (hc0 : cs ≠ [] := by decide) (hdb : (x == ("__debug__" : Str)) = false := by decide) (hsub : cs.all (fun c => Γ.es.any fun q => q.1 == c) = true := by rfl) :
    SS Γ (.Try body [.ExceptHandler (some (.Name x np)) (some n) (b₀ :: suite) pos'] [] [] pos) (.tri ib cs j iu) := fun X p o => by
  obtain ⟨c0, hm0⟩ : ∃ c0, c0 ∈ cs := by
    cases cs with
    | nil => exact absurd rfl hc0
    | cons c0 _ => exact ⟨c0, List.mem_cons_self⟩
  have mem : ∀ c ∈ cs, (c, x, true) ∈ Γ.ts := fun c hc => List.contains_iff_mem.mp (List.all_eq_true.mp hx c hc)
  obtain ⟨f0, hf0⟩ : ∃ f0, (c0, f0) ∈ Γ.es := by
    obtain ⟨q, hq, e⟩ := List.any_eq_true.mp (List.all_eq_true.mp hsub c0 hm0)
    obtain ⟨q1, q2⟩ := q
    have e : q1 = c0 := beq_iff_eq.mp e
    subst e
    exact ⟨q2, hq⟩
  obtain ⟨C0, hC0⟩ := o.er hh _ hf0
  obtain ⟨Cx0, hD, _⟩ := o.ef.tr _ (mem c0 hm0) C0 hC0.mg
  refine PS_weak (L2N.ps_try_as (i := j) (c := .ref Cx0) (Wout := fun _ _ _ _ => False) (tb := fun W => TSsx W X.mg Γ p ib) (ts := fun a cls d => TSs Γ.K Γ.cl (p.with_ (suLk Γ X.mg a cls d)) iu) o.stk o.frm (by rw [o.N]; exact o.nd) (by rw [o.N]; exact hN)
    (show X.env.scope.names.lookup n = _ by rw [o.sc]; exact hl) ⟨o.gl hg, hdb, .inl hD⟩ takes0 (fun W pn xe tk hp => hb (X.tr pn xe) p W (o.tr hh hp) tk) (fun a oe cls d pn hz hf => hu _ _ (o.su hh hz hf))) fun D σ H q => ?_
  obtain ⟨st, B, M, F, env, out, r, he, k⟩ := q
  unfold evS at he
  refine ⟨st, B, M, F, env, r, ?_⟩
  split at he
  · rename_i o1 e1
    cases he
    exact .inl ⟨_, e1, k⟩
  · split at he
    · rename_i c v env1 st1 e1
      split at he
      · rename_i hc
        split at he
        · rename_i o2 e2
          cases he
          refine .inr ⟨(c, v), env1, st1, e1, fun cls d B' M' σ' H' x1 r1 z => ?_⟩
          obtain ⟨C, fld, u, z1, z2, z3, z4, z5, z6, z7, z8⟩ := z
          subst z3
          obtain ⟨D', hD', hex⟩ := o.ef.tr _ (mem c hc) C z2
          rw [hD] at hD'
          cases hD'
          have zM : M' d = none := by
            cases hm : M' d with
            | none => rfl
            | some w => rw [uni_l hm] at z7; cases z7
          have zF : F d = none := by rw [uni_r zM] at z7; exact z7
          refine ⟨true, by rw [o.K] at hex ⊢; exact hex, fun _ a ha => ?_, fun z => by cases z⟩
          have r2 := r1.know z4 z6 zM zF z8
          have r3 := r2.caught (o.lk hh) (j := j) (a := a) (l := suLk Γ X.mg a (.ref C) (some d)) ⟨rfl, rfl, z1, C, z2, rfl⟩ upd_same (z5.mono (Ex.new z6))
          exact ⟨st1, _, M', F, _, o2, r3, e2, out_un (k.mono (x1.trans (Ex.new z6)))⟩
        · cases he
      · cases he
    · cases he
/-- n.f, n the caught error -/
theorem exf_se (j : Nat) (cs : List Str) (hN : Γ.N[j]? = some n := by rfl) (hl : Γ.sc.names.lookup n = some .local := by rfl) (hd : (n == ("__debug__" : Str)) = false := by decide) (hcd : (n == ("__classdict__" : Str)) = false := by decide)
    (hc : Γ.es.all (fun q => !cs.contains q.1 || q.2 == f) = true := by rfl) (hb : ∀ env, attributeBase (.Name n p0) f env (eval (.Name n p0) env) = eval (.Name n p0) env := by intro _; rfl) : SE Γ (.Attribute (.Name n p0) f pos) (.exf j cs) := fun X p o => ⟨fun pins s σ H Q I q => by
  obtain ⟨st, B, M, F, env, d, st', r, he, k⟩ := id q
  unfold ev at he
  split at he
  · rename_i c v e1
    split at he
    · rename_i hcs
      cases he
      obtain ⟨ov, h1, a, dd, fl, u, h2, h3, h4, h5⟩ := r.en.at_ j _ e1
      obtain ⟨hes, hca⟩ := o.lkh a dd c fl h3
      obtain ⟨X0, oe, pn, C, e2, hz, hf, hmg⟩ := hca.ex
      obtain ⟨f1, f2, f3⟩ := o.ef.cl _ hes C hmg
      have ef : fl = f := by
        have z := List.all_eq_true.mp hc _ hes
        dsimp only at z
        rw [List.contains_iff_mem.mpr hcs] at z
        exact beq_iff_eq.mp (by simpa using z)
      subst ef
      have hv : Vis X.env.scope n := by rw [o.sc]; exact Or.inl hl
      have hNX : X.N[j]? = some n := by rw [o.N]; exact hN
      have hbX := hb X0.env
      subst e2
      have P := pe_xf (X := X0) (a := a) (oe := oe) (pn := pn) (cls := .ref C) (d := some dd) (n := fl) (pos := pos) f1 f3 hz hf (pe_var (X := X0.suite a ((a, oe) :: pn)) (i := j) hNX hv hd hcd) hbX
      refine P.run pins s σ H Q I ⟨.ref a, ?_, rfl, rfl, dd, [(fl, u)], u, rfl, r.bs.b _ _ h4, by simp [List.lookup], k u B H (Ex.refl B) r h5⟩
      rw [← h2]
      exact h1
    · cases he
  · cases he⟩
/-- isinstance(n, x), n the caught error -/
theorem exi_se (j : Nat) (cs yes : List Str) (hb : Γ.bs.contains "isinstance" = true := by rfl) (hg : GlS Γ.sc "isinstance" := by rfl) (hN : Γ.N[j]? = some n := by rfl) (hl : Γ.sc.names.lookup n = some .local := by rfl) (hd : (n == ("__debug__" : Str)) = false := by decide) (hcd : (n == ("__classdict__" : Str)) = false := by decide)
    (hx : GlS Γ.sc x := by rfl) (hxd : (x == ("__debug__" : Str)) = false := by decide) (hks : Γ.es.all (fun q => !cs.contains q.1 || Γ.ks.contains (q.1, x, yes.contains q.1)) = true := by rfl)
    (hs : ∀ env, starEach [.Name n p1, .Name x p2] env = (false, eval (.Name n p1) env) :: starEach [.Name x p2] env := by intro _; rfl) : SE Γ (.Call (.Name "isinstance" p0) [.Name n p1, .Name x p2] [] pos) (.exi j cs yes) := fun X p o => ⟨fun pins s σ H Q I q => by
  obtain ⟨st, B, M, F, env, d, st', r, he, k⟩ := id q
  unfold ev at he
  split at he
  · rename_i c v e1
    split at he
    · rename_i hcs
      cases he
      obtain ⟨ov, h1, a, dd, fl, u, h2, h3, h4, h5⟩ := r.en.at_ j _ e1
      obtain ⟨hes, hca⟩ := o.lkh a dd c fl h3
      obtain ⟨X0, oe, pn, C, e2, hz, hf, hmg⟩ := hca.ex
      obtain ⟨f1, f2, f3⟩ := o.ef.cl _ hes C hmg
      have hm : (c, x, yes.contains c) ∈ Γ.ks := by
        have z := List.all_eq_true.mp hks _ hes
        dsimp only at z
        rw [List.contains_iff_mem.mpr hcs] at z
        exact List.contains_iff_mem.mp (by simpa using z)
      have hv : Vis X.env.scope n := by rw [o.sc]; exact Or.inl hl
      have hNX : X.N[j]? = some n := by rw [o.N]; exact hN
      have hgX : Gl X "isinstance" := o.gl hg
      have hbX := o.bl _ (List.contains_iff_mem.mp hb)
      have hxX : Gl X x := o.gl hx
      have hsX := hs X.env
      have key : ∀ (cv : Value) (w : V), PE X (.Name x p2) (tC w) → (∀ z, RelV w z → z = cv) → PySem.W.kitOne X.K (.ref C) cv = some (yes.contains c) → wpAny (model X.prog X.w) X.A (eval (.Call (.Name "isinstance" p0) [.Name n p1, .Name x p2] [] pos) X.env) (EP X pins σ Q) X.xe s := fun cv w pw hw hk => by
        subst e2
        have P := pe_callB (call_isX (X := X0) (pn := pn) f2 hz hf) hgX hbX (by decide +kernel) (p := p0) (pos := pos) (pa_cons (pe_var (X := X0.suite a ((a, oe) :: pn)) (i := j) (pos := p1) hNX hv hd hcd) (pa_cons pw pa_nil rfl) hsX) (by decide) (by decide) hsX rfl
        refine P.run pins s σ H Q I ⟨.ref a, ?_, w, cv, _, [(fl, u)], rfl, hw, hk, r.bs.b _ _ h4, ?_⟩
        · rw [← h2]
          exact h1
        · refine k _ B H (Ex.refl B) r ?_
          have eb : yes.contains c = decide (c ∈ yes) := by
            cases hcn : yes.contains c with
            | true => exact (decide_eq_true (List.contains_iff_mem.mp hcn)).symm
            | false => exact (decide_eq_false fun z => by rw [List.contains_iff_mem.mpr z] at hcn; cases hcn).symm
          rw [eb]
          exact .bl _
      rcases o.ef.ki _ hm C hmg with ⟨D, g1, g2⟩ | ⟨nm, g1, g2, g3, g4⟩
      · exact key (.ref D) (.ref D) (pe_glob hxX g1 rfl hxd) (fun z hz => hz) g2
      · exact key (.type nm) (.ty nm) (pe_bltn hxX g1 g2 rfl g3 hxd) (fun z hz => hz) g4
    · cases he
  · cases he⟩
end
end Ip

set_option Elab.async false
set_option linter.all false
set_option maxRecDepth 100000
set_option maxHeartbeats 4000000
namespace Ip
open PySem L2
/-! Constants of the module, methods of texts, a while that is not entered, more of what may raise. -/
section
variable {Γ : Gam} {e a b c : Expr} {es : List Expr} {ia ib ic i : IE} {ies : IEs} {pos pos' p0 p1 p2 apos : Pos} {x : Str} {s : Stmt} {ss : List Stmt} {is : IS} {iss : ISs} {d : D}
theorem con_se (n : Nat) (hg : GlS Γ.sc x := by rfl) (hm : Γ.gs[n]? = some (x, d) := by rfl) (hd : (x == ("__debug__" : Str)) = false := by decide) : SE Γ (.Name x pos) (.con d) := fun X p o => by
  obtain ⟨u, v, h1, h2, h3⟩ := o.ef.gc (x, d) (List.mem_of_getElem? hm)
  refine PE_weak (pe_glob (o.gl hg) h1 h2 hd) fun σ H Q q => ?_
  obtain ⟨st, B, M, F, env, d', st', r, he, k⟩ := q
  unfold ev at he
  cases he
  have h4 := h3 B
  rw [o.K] at h4
  exact k v B H (Ex.refl B) r h4
theorem most_5 {n : Nat} (h : n ≤ most) : n ≤ 5592405 := Nat.le_trans h (by decide)
theorem me0_rd {m : M0} {K : PySem.W.Frag} {cl : Cl} {p : Pa} {g : Str → Str} {σ : L2.St} {H : Hp} {Q : VK} (hm : ∀ x z, m0D m x = some z → ∃ s, x = .str s ∧ s.length ≤ most ∧ z = .str (g s)) (q : Tx K cl p (.me0 m i) σ H Q) :
    tM0 (fun x xs H Q => ∃ a, x = .str a ∧ xs = [] ∧ a.length ≤ 5592405 ∧ Q (.str (g a)) H) (Tx K cl p i) σ H Q := by
  obtain ⟨st, B, M, F, env, d, st', r, he, k⟩ := q
  unfold ev at he
  split at he
  · rename_i x st1 e1
    obtain ⟨z, e2, e3⟩ := Option.map_eq_some_iff.mp he
    cases e3
    obtain ⟨s, rfl, hl, rfl⟩ := hm _ _ e2
    refine ⟨st, B, M, F, env, _, _, r, e1, fun v B' H' x1 r' pv => ?_⟩
    cases pv
    exact ⟨⟨s, rfl⟩, s, rfl, rfl, most_5 hl, k _ B' H' x1 r' (.str _)⟩
  · cases he
theorem lower_se (h : SE Γ e i) (hbase : ∀ env, attributeBase e "lower" env (eval e env) = eval e env := by intro _; rfl) (hline : (apos.endLine == pos.line) = true := by rfl) : SE Γ (.Call (.Attribute e "lower" apos) [] [] pos) (.me0 .lower i) := fun X p o =>
  PE_weak (pe_lower (h X p o) (hbase _) hline) fun σ H Q q => me0_rd (g := Txt.lower) (fun x z e => by
    cases x with
    | str s =>
      obtain ⟨hl, rfl⟩ := ite_some (show (if s.length ≤ most then some (PyData.str (Txt.lower s)) else none) = some z from e)
      exact ⟨s, rfl, hl, rfl⟩
    | _ => cases e) q
theorem upper_se (h : SE Γ e i) (hbase : ∀ env, attributeBase e "upper" env (eval e env) = eval e env := by intro _; rfl) (hline : (apos.endLine == pos.line) = true := by rfl) : SE Γ (.Call (.Attribute e "upper" apos) [] [] pos) (.me0 .upper i) := fun X p o =>
  PE_weak (pe_upper (h X p o) (hbase _) hline) fun σ H Q q => me0_rd (g := Txt.upper) (fun x z e => by
    cases x with
    | str s =>
      obtain ⟨hl, rfl⟩ := ite_some (show (if s.length ≤ most then some (PyData.str (Txt.upper s)) else none) = some z from e)
      exact ⟨s, rfl, hl, rfl⟩
    | _ => cases e) q
theorem me1_rd {m : M1} {K : PySem.W.Frag} {cl : Cl} {p : Pa} {r : V → List V → Hp → VK → Prop} {σ : L2.St} {H : Hp} {Q : VK}
    (hr : ∀ {st B M F env x y z v u H}, Rel K p st B M F env σ H → Rp K B v x → Rp K B u y → m1D m x y = some z → ∀ Q : VK, (∀ w B' H', Ex B B' → Rel K p st B' M F env σ H' → Rp K B' w z → Q w H') → (∃ s, v = .str s) ∧ r v [u] H Q)
    (hs : ∀ x y z, m1D m x y = some z → ∃ s, x = .str s) (q : Tx K cl p (.me1 m ia ib) σ H Q) : tM1 r (Tx K cl p ia) (Tx K cl p ib) σ H Q := by
  obtain ⟨st, B, M, F, env, d, st', rl, he, k⟩ := q
  unfold ev at he
  split at he
  · rename_i x st1 e1
    split at he
    · rename_i y st2 e2
      obtain ⟨z, e3, e4⟩ := Option.map_eq_some_iff.mp he
      cases e4
      obtain ⟨s0, rfl⟩ := hs _ _ _ e3
      refine ⟨st, B, M, F, env, _, st1, rl, e1, fun v B1 H1 x1 r1 p1 => ?_⟩
      cases p1
      refine ⟨⟨s0, rfl⟩, st1, B1, M, F, env, y, _, r1, e2, fun u B2 H2 x2 r2 p2 => ?_⟩
      exact (hr r2 (.str s0) p2 e3 Q fun w B' H' x3 r3 p3 => k w B' H' ((x1.trans x2).trans x3) r3 p3).2
    · cases he
  · cases he
theorem removeprefix_se (ha : SE Γ a ia) (hb : SE Γ b ib) (hs : ∀ env, starEach [b] env = [(false, eval b env)] := by intro _; rfl) (hbase : ∀ env, attributeBase a "removeprefix" env (eval a env) = eval a env := by intro _; rfl) (hline : (apos.endLine == pos.line) = true := by rfl) :
    SE Γ (.Call (.Attribute a "removeprefix" apos) [b] [] pos) (.me1 .removeprefix ia ib) := fun X p o =>
  PE_weak (pe_m1 PySem.F.slot_str_removeprefix PySem.F.type_str_removeprefix mt_removeprefix (ha X p o) (hb X p o) (hs _) (hbase _) hline) fun σ H Q q => by
    refine me1_rd ?_ ?_ q
    · intro st B M F env x y z v u H r px py h Q k
      cases px with
      | str s =>
        cases py with
        | str t =>
          obtain ⟨hl, rfl⟩ := ite_some (show (if s.length ≤ most then some (PyData.str (Txt.removeprefix s t)) else none) = some z from h)
          exact ⟨⟨s, rfl⟩, s, t, rfl, rfl, most_line hl, k _ B H (Ex.refl B) r (.str _)⟩
        | _ => cases h
      | _ => cases py <;> (cases h; done)
    · intro x y z h
      cases x <;> first | exact ⟨_, rfl⟩ | (cases y <;> (cases h; done))
theorem strs_rp {K : PySem.W.Frag} {B : Hp} : ∀ {ds : List D} {vs : List V} {ys : List Str}, RpA K B vs ds → strsD ds = some ys → vs = ys.map V.str
  | [], _, ys, .nil, h => by
    cases h
    rfl
  | d :: ds, _, ys, .cons hv r, h => by
    cases d with
    | str s =>
      obtain ⟨ys', e1, e2⟩ := Option.map_eq_some_iff.mp (show (strsD ds).map (fun ss => s :: ss) = some ys from h)
      subst e2
      cases hv
      rw [strs_rp r e1]
      rfl
    | _ => cases h
theorem join_se (ha : SE Γ a ia) (hb : SE Γ b ib) (hs : ∀ env, starEach [b] env = [(false, eval b env)] := by intro _; rfl) (hbase : ∀ env, attributeBase a "join" env (eval a env) = eval a env := by intro _; rfl) (hline : (apos.endLine == pos.line) = true := by rfl) :
    SE Γ (.Call (.Attribute a "join" apos) [b] [] pos) (.me1 .join ia ib) := fun X p o =>
  PE_weak (pe_join (ha X p o) (hb X p o) (hs _) (hbase _) hline) fun σ H Q q => by
    rw [o.K]
    refine me1_rd ?_ ?_ q
    · intro st B M F env x y z v u H r px py h Q k
      cases px with
      | str s =>
        cases py with
        | @lst l xs ds hx rx =>
          have h' : (match strsD ds with
            | some ys => if (ys.map (·.length)).sum + ys.length * s.length ≤ 16777216 then some (PyData.str (Txt.join s ys)) else none
            | none => none) = some z := h
          split at h'
          · rename_i ys e1
            obtain ⟨hl, rfl⟩ := ite_some h'
            rw [strs_rp rx e1] at hx
            exact ⟨⟨s, rfl⟩, s, l, ys, rfl, rfl, .inl (Or.inl (Or.inl (r.bs.b _ _ hx))), hl, k _ B H (Ex.refl B) r (.str _)⟩
          · cases h'
        | _ => cases h
      | _ => cases py <;> (cases h; done)
    · intro x y z h
      cases x <;> first | exact ⟨_, rfl⟩ | (cases y <;> (cases h; done))
/-! ### a while that is not entered -/
theorem PSs_no {X : Cx} : PSs X ss (fun _ _ _ => False) := ⟨fun pins s σ H D I q => q.elim⟩
theorem ss_whl (h : ST Γ c ic) : SS Γ (.While c ss [] pos) (.whl ic) := fun X p o => PS_weak (ps_while o.own (h X p o.toOkx) PSs_no) fun D σ H q => by
  obtain ⟨st, B, M, F, env, out, r, he, k⟩ := q
  unfold evS at he
  split at he
  · rename_i st1 e1
    cases he
    refine ⟨fun _ σ' H' => σ' = σ ∧ H' = H, ⟨0, rfl, rfl⟩, ?_⟩
    rintro m σ2 H2 ⟨h1, h2⟩
    rw [h1, h2]
    exact ⟨st, B, M, F, env, false, _, r, e1, fun B' H' x r' => iteF (k B' M σ H' x r')⟩
  · cases he
/-! ### marks -/
theorem qt_se (h : SE Γ e i) : SE Γ e (.qt i) := fun X p o => PE_weak (h X p o) fun σ H Q q => by
  obtain ⟨st, B, M, F, env, d, st', r, he, k⟩ := q
  unfold ev at he
  exact ⟨st, B, M, F, env, d, st', r, he, k⟩
theorem qt_sx (h : SE Γ e i) : SX Γ e (.qt i) := sx_of (qt_se h) fun _ _ => rfl
theorem ss_calm (h : SS Γ s is) : SS Γ s (.calm is) := fun X p o => PS_weak (h X p o) fun D σ H q => by
  obtain ⟨st, B, M, F, env, out, r, he, k⟩ := q
  unfold evS at he
  exact ⟨st, B, M, F, env, out, r, he, k⟩
theorem ss_rse0 : SS Γ s (.rse x i) := fun X p o => ⟨fun pins s σ H D I q => by
  obtain ⟨st, B, M, F, env, out, r, he, k⟩ := q
  unfold evS at he
  cases he⟩
theorem lit_el {x y : Str} {es : List (Str × Str)} (h : es.contains (x, y) = true) : (x, y) ∈ es := List.contains_iff_mem.mp h
theorem chn_st {op op' : CmpOp} {o1 o2 : Cop} (C : CmpOk op o1) (C' : CmpOk op' o2) (ha : SE Γ a ia) (hb : SE Γ b ib) (hc : SE Γ c ic) (hm : lastMarks [op, op'] [b, c] = false := by with_unfolding_all rfl) :
    ST Γ (.Compare a [op, op'] [b, c] pos) (.chn o1 o2 ia ib ic) := fun X p ok =>
  PT_weak (pt_chain (C.ok X (by have := ok.units; omega)) (C'.ok X (by have := ok.units; omega)) (ha X p ok) (hb X p ok) (hc X p ok) hm) fun σ H Q q => by
    rw [ok.K]
    obtain ⟨st, B, M, F, env, b, st', r, he, k⟩ := q
    refine tx_chn C C' ⟨st, B, M, F, env, _, st', r, he, fun v B' H' x r pv => ?_⟩
    cases pv
    exact ⟨b, rfl, k B' H' x r⟩
/-! ### one part -/
theorem js1_se (h : SE Γ e i) : SE Γ (.JoinedStr [e] pos) i := fun X p o => pe_joined1 (h X p o)
/-! ### what may raise -/
theorem add_rd {K : PySem.W.Frag} {p : Pa} {σ : L2.St} {st : Pl} {B M F : Hp} {env : List Sl} {x y z : D} {v u : V} {H : Hp} (r : Rel K p st B M F env σ H) (px : Rp K B v x) (py : Rp K B u y) (h : binD .add x y = some z) (Q : VK)
    (k : ∀ w B' H', Ex B B' → Rel K p st B' M F env σ H' → Rp K B' w z → Q w H') : rAddD K v u H Q := by
  cases px with
  | int i =>
    cases py with
    | int j =>
      cases h
      exact .inl (.inl ⟨i, j, rfl, rfl, k _ B H (Ex.refl B) r (.int _)⟩)
    | _ => cases h
  | str s =>
    cases py with
    | str t =>
      obtain ⟨hl, rfl⟩ := ite_some (show (if s.length + t.length ≤ most then some (PyData.str (s ++ t)) else none) = some z from h)
      exact .inl (.inr ⟨s, t, rfl, rfl, most_line hl, k _ B H (Ex.refl B) r (.str _)⟩)
    | _ => cases h
  | @lst _ _ xs hx rx =>
    cases py with
    | @lst _ _ ys hy ry =>
      obtain ⟨hl, rfl⟩ := ite_some (show (if xs.length + ys.length ≤ most then some (PyData.list (xs ++ ys)) else none) = some z from h)
      refine .inr (.inl ⟨_, _, _, _, rfl, rfl, r.bs.b _ _ hx, r.bs.b _ _ hy, most_line (by rw [rx.length, ry.length]; exact hl), fun q hq => ?_⟩)
      exact k (.ref q) _ _ (Ex.new (r.bs.b.free hq)) (r.new hq) (.lst upd_same ((rx.append ry).mono (Ex.new (r.bs.b.free hq))))
    | _ => cases h
  | @tup _ _ xs hx rx =>
    cases py with
    | @tup _ _ ys hy ry =>
      obtain ⟨hl, rfl⟩ := ite_some (show (if xs.length + ys.length ≤ most then some (PyData.tuple (xs ++ ys)) else none) = some z from h)
      refine .inr (.inr ⟨_, _, _, _, rfl, rfl, sqt_mono r.bs.b hx, sqt_mono r.bs.b hy, most_line (by rw [rx.length, ry.length]; exact hl), fun e => ?_, fun e1 e2 => ?_, fun e1 e2 q hq => ?_⟩)
      · subst e
        cases rx
        exact k _ B H (Ex.refl B) r (.tup hy ry)
      · subst e2
        cases ry
        rw [List.append_nil] at k
        exact k _ B H (Ex.refl B) r (.tup hx rx)
      · exact k (.ref q) _ _ (Ex.new (r.bs.b.free hq)) (r.new hq) (.tup (Or.inl (Or.inl upd_same)) ((rx.append ry).mono (Ex.new (r.bs.b.free hq))))
    | _ => cases h
  | _ => cases h
theorem sx_add (ha : SX Γ a ia) (hb : SX Γ b ib) : SX Γ (.BinOp a .Add b pos) (.bin .add ia ib) := fun X p W ok tk =>
  PE_weak (pe_op (OpR.or (OpR.or op_add op_add_str) (OpR.or op_cat op_catA)) (ha X p W ok tk) (hb X p W ok tk)) fun σ H Q q => by
    rw [ok.K]
    exact txx_two (f := binD .add) (fun env st => rfl) (fun env st => rfl) (fun r1 p1 p2 e Q k => add_rd r1 p1 p2 e Q k) q
theorem csts_rp {K : PySem.W.Frag} {p : Pa} {B : Hp} : ∀ cs : List Cst, ArA K p B (cs.map Cst.v) (cs.map fun c => some c.d)
  | [] => .nil
  | c :: cs => .cons (by cases c <;> constructor) (csts_rp cs)
/-- a call whose last parameters are filled up -/
theorem sx_calld {cs : List Cst} (n : Nat) (h : SG Γ (e :: es) ies) (hh : Γ.hot = false := by rfl) (hf : Γ.df[n]? = some (x, cs) := by rfl) (hg : GlS Γ.sc x := by rfl) (hdb : (x == ("__debug__" : Str)) = false := by decide)
    (he : ∀ env, starEach (e :: es) env = (false, eval e env) :: starEach es env := by intro _; rfl) (hpl : ∀ env, (backTo pos (starEach es env)).any (·.1) = false := by intro _; rfl) :
    SX Γ (.Call (.Name x p0) (e :: es) [] pos) (.calld x ies cs) := fun X p W o tk => ⟨fun pins s σ H Q I q => by
  obtain ⟨fa, fd, ps, k, us0, F, hm, hk, hb, hv, hr⟩ := o.df hh _ (List.mem_of_getElem? hf)
  have fill : ∀ {B : Hp} {vs : List V} {ds : List (Option D)}, ArA Γ.K p.o B vs ds → ArA Γ.K p.o B (vs ++ cs.map Cst.v) (ds ++ cs.map fun c => some c.d) := fun {B vs ds} r => by
    induction r with
    | nil => exact csts_rp cs
    | cons h1 _ ih => exact .cons h1 ih
    | pool _ ih => exact .pool ih
  refine wpAny_Call_Name_kw (ld_glob I (o.gl hg) hm ?_ hdb)
  have go : ∀ (T : TA), T σ H (fun vs H1 => spG X.mg Γ.es Γ.K Γ.cl x (vs ++ cs.map Cst.v) H1 Q (WE W σ)) → PA X (e :: es) T → wpAny (model X.prog X.w) X.A (callWith pos (.ref fa) [] (backTo pos (starEach (e :: es) X.env)) (backToKw pos (keywordEach [] X.env))) (EP X pins σ Q) X.xe s := fun T hT hp => by
    refine PySem.W.callWith_K (h₀ := X.base) I.ok.mod.kin hk (thn (hp.run pos pins s σ H _ I hT) fun us s1 ⟨vs, H1, I1, r, q1⟩ => ⟨I1.kIn, ?_⟩) (he _) (hpl _)
    have r2 : Vals (vs ++ cs.map Cst.v) (us ++ us0) := r.append hv
    have hl2 : (us ++ us0).length = ps.length := by rw [← r2.length]; exact F.len _ _ _ _ q1
    refine wpAny_call (codeAny_mono (F.run X.A X.stack s1 H1 ⟨us, []⟩ (us ++ us0) (vs ++ cs.map Cst.v) Q (WE W σ) hr I1.env0 (hb s1 us I1.kIn hl2) r2 q1) fun r s' hq => ?_)
    cases r with
    | error e => exact L2N.passAt tk σ pins H1 s1 e s' I1 hq
    | ok fl =>
      cases fl with
      | ret u => exact I1.after hq
      | next => exact False.elim hq
      | brk => exact False.elim hq
      | cont => exact False.elim hq
  refine go (Tg Γ.K Γ.cl p ies) ?_ (h X p o)
  obtain ⟨st, B, M, F0, env, r, q⟩ := q
  rcases q with ⟨d, st', he, k⟩ | ⟨er, st', he, k⟩
  · unfold ev at he
    cases e1 : ag Γ.cl ies env st with
    | none =>
      rw [e1] at he
      cases he
    | some ys =>
      obtain ⟨ys, st1⟩ := ys
      rw [e1] at he
      exact ⟨st, B, M, F0, env, ys, st1, r, e1, fun vs B1 H1 x1 r1 p1 => ⟨p.o, st1, B1, uni M F0, _, ⟨rfl, rfl, rfl⟩, r1.call.o, fill p1.o, .inl ⟨d, st', he, fun v B' H' x2 w pv => k v B' H' (x1.trans x2) (r1.back x2 w.u) pv⟩⟩⟩
  · unfold xv at he
    cases e1 : ag Γ.cl ies env st with
    | none =>
      rw [e1] at he
      cases he
    | some ys =>
      obtain ⟨ys, st1⟩ := ys
      simp only [e1] at he
      cases e2 : Γ.cl (bang x) (ys ++ cs.map fun c => some c.d) st1 with
      | none =>
        rw [e2] at he
        cases he
      | some z =>
        obtain ⟨z, st2⟩ := z
        rw [e2] at he
        obtain ⟨er', e3, e4⟩ := Option.map_eq_some_iff.mp he
        cases e4
        exact ⟨st, B, M, F0, env, ys, st1, r, e1, fun vs B1 H1 x1 r1 p1 => ⟨p.o, st1, B1, uni M F0, _, ⟨rfl, rfl, rfl⟩, r1.call.o, fill p1.o, .inr ⟨z, _, _, e2, e3, fun cls d B' H' x2 w rz => k cls d B' H' (x1.trans x2) (r1.back x2 w.u) rz⟩⟩⟩⟩
theorem ssx_app (n : Nat) (h : SX Γ e i) (hN : Γ.N[n]? = some x := by rfl) (hv : Vis Γ.sc x := by first | exact Or.inl rfl | exact Or.inr (Or.inl rfl) | exact Or.inr (Or.inr rfl)) (hd : (x == ("__debug__" : Str)) = false := by decide) (hcd : (x == ("__classdict__" : Str)) = false := by decide)
    (hbase : ∀ env, attributeBase (.Name x p0) "append" env (eval (.Name x p0) env) = eval (.Name x p0) env := by intro _; rfl)
    (hfew : ∀ env, ((backTo p2 (starEach [e] env)).all (fun x => !x.1) && (backToKw p2 (keywordEach [] env)).all (fun x => x.1.isSome) && decide (([e] : List Expr).length + ([] : List Keyword).length + (if ([] : List Keyword).isEmpty then 0 else 1) < 30)) = true := by intro _; rfl)
    (hline : (p1.endLine == p2.line) = true := by rfl) (hs : ∀ env, starEach [e] env = (false, eval e env) :: starEach [] env := by intro _; rfl) (hsw : ∀ env, swapsWith (.Call (.Attribute (.Name x p0) "append" p1) [e] [] p2) none pos.line env = pure false := by intro _; rfl) :
    SSX Γ (.Expr (.Call (.Attribute (.Name x p0) "append" p1) [e] [] p2) pos) (.app n i) := fun X p W o tk =>
  PS_weak (ps_expr (pe_bm PySem.F.plainAttrs_list PySem.F.slot_list_append PySem.F.type_list_append mt_append (pe_var (i := n) (by rw [o.N]; exact hN) (by rw [o.sc]; exact hv) hd hcd) (pa_cons (h X p W o.toOkx tk) pa_nil (hs _)) (hbase _) (hfew _) hline (hs _) rfl) (hsw _)) fun D σ H q => by
    obtain ⟨st, B, M, F, env, r, q⟩ := q
    rcases q with ⟨out, he, k⟩ | ⟨er, env1, st1, he, k⟩
    · unfold evS at he
      split at he
      · rename_i d st1 e1
        split at he
        · rename_i ds e2
          obtain ⟨hl, he⟩ := ite_some he
          subst he
          obtain ⟨w, h1, h2⟩ := r.en.at_ n _ e2
          cases w with
          | none => exact h2.elim
          | some v =>
            cases v with
            | ref a =>
              obtain ⟨xs, h3, h4⟩ := h2
              refine ⟨_, h1, .inl ⟨rfl, xs, Or.inl (Or.inl (r.m _ _ h3))⟩, st, B, M, F, env, r, .inl ⟨d, st1, e1, fun v B' H' x r' pv => ?_⟩⟩
              refine ⟨a, xs, v, rfl, rfl, r'.m _ _ h3, most_lt (by rw [h4.length]; exact hl), ?_⟩
              exact k B' _ σ _ x (r'.grow e2 h1 h3 ((h4.mono x).append (.one pv)))
            | _ => exact h2.elim
        · cases he
      · cases he
    · unfold xvS at he
      split at he
      · rename_i ds e2
        obtain ⟨⟨er', st2⟩, e1, e3⟩ := Option.map_eq_some_iff.mp he
        cases e3
        obtain ⟨w, h1, h2⟩ := r.en.at_ n _ e2
        cases w with
        | none => exact h2.elim
        | some v =>
          cases v with
          | ref a =>
            obtain ⟨xs, h3, h4⟩ := h2
            exact ⟨_, h1, .inl ⟨rfl, xs, Or.inl (Or.inl (r.m _ _ h3))⟩, st, B, M, F, env, r, .inr ⟨er', st2, e1, fun cls d B' H' x r' z => k cls d B' M σ H' x r' z⟩⟩
          | _ => exact h2.elim
      · cases he
end
end Ip

set_option Elab.async false
set_option linter.all false
set_option maxRecDepth 100000
set_option maxHeartbeats 4000000
namespace Ip
open PySem L2 PySem.W He NdefX
/-! The head's hook with one question more; the errors' facts from it. -/
abbrev AlF : Type := AlE × Bool
def obsF (P : Program) (fa : List Fa) (fn : List DefD) (er : List ErrD) (ex : Frag → Bool) (K : Frag) : AlF := (obsE P fa fn er K, ex K)
def valF (fn : List DefD) (er : List ErrD) : AlF := (valE fn er, true)
def SaysF (P : Program) (fa : List Fa) (fn : List DefD) (er : List ErrD) (ex : Frag → Bool) (K : Frag) : Prop := obsF P fa fn er ex K = valF fn er
def obsFG (n : Nat) (P : Program) (fa : List Fa) (fn : List DefD) (er : List ErrD) (ex : Frag → Bool) (g : Addr → Option Obj) : AlF := obsF P fa fn er ex (frG g (asE g n))
def hookF (n : Nat) (P : Program) (fa : List Fa) (fn : List DefD) (er : List ErrD) (ex : Frag → Bool) : PySem.W.Hook where
  α := AlF
  obs := fun s => obsFG n P fa fn er ex s.heap.get?
  val := fun _ => valF fn er
  says := fun _ h => ∃ K : Frag, K.In h ∧ SaysF P fa fn er ex K
  of := fun _ _ e => ⟨_, frG_in, e⟩
  keeps := fun _ _ _ q k => q.elim fun K q => ⟨K, PySem.W.Frag.In.keeps q.1 k, q.2⟩
theorem obsFG_eq {n : Nat} {P : Program} {fa : List Fa} {fn : List DefD} {er : List ErrD} {ex : Frag → Bool} {g : Addr → Option Obj} {s : Shared} (h : ∀ a, g a = s.heap.get? a) : obsFG n P fa fn er ex g = (hookF n P fa fn er ex).obs s := by
  obtain rfl : g = s.heap.get? := funext h
  rfl
theorem SaysF.e {P : Program} {fa : List Fa} {fn : List DefD} {er : List ErrD} {ex : Frag → Bool} {K : Frag} (c : SaysF P fa fn er ex K) : SaysE P fa fn er K := congrArg (fun z : AlF => z.1) c
theorem SaysF.d {P : Program} {fa : List Fa} {fn : List DefD} {er : List ErrD} {ex : Frag → Bool} {K : Frag} (c : SaysF P fa fn er ex K) : SaysD fa fn K := c.e.old
theorem SaysF.ex {P : Program} {fa : List Fa} {fn : List DefD} {er : List ErrD} {ex : Frag → Bool} {K : Frag} (c : SaysF P fa fn er ex K) : ex K = true := congrArg (fun z : AlF => z.2) c
/-! ### the errors' classes -/
def excB (K : Frag) (D : Addr) : Bool := eqO (findIn K (.ref D) "__getattribute__") (some (some (.builtin "BaseException.__getattribute__"))) && (eqO (findIn K (.ref D) "__getattr__") (some none) && (decide (subIn K (.ref D) (.type "BaseException") = some true) && (hasDictIn K D
  && (eqO (findIn K (.ref D) "__class__") (some (some (.builtin "object.__class__"))) && (eqO (specialIn K (.builtin "object.__class__") "__get__") (some (some (.builtin "getset_descriptor.__get__"))) && (decide (takesIn K (.builtin "object.__class__") = some true) && decide (mroIn K D (.type "object") = some true)))))))
theorem excB_ok {K : Frag} {D : Addr} (h : excB K D = true) : ExcC K D := by
  unfold excB at h
  simp only [Bool.and_eq_true, decide_eq_true_eq] at h
  obtain ⟨h1, h2, h3, h4, h5, h6, h7, h8⟩ := h
  exact ⟨eqO_ok h1, eqO_ok h2, h3, h4, eqO_ok h5, eqO_ok h6, h7, h8⟩
def clB (K : Frag) (es : List (Str × Str)) : Bool := es.all fun q => xfB K (ga K q.1) && (excB K (ga K q.1) && eqO (findIn K (.ref (ga K q.1)) q.2) (some none))
/-- the names of built-in classes -/
def clsV (K : Frag) (bn : List (Str × String)) (x : Str) : Value := match bn.lookup x with
  | some n => .type n
  | none => .ref (ga K x)
def kiB (K : Frag) (bn : List (Str × String)) (ks : List (Str × Str × Bool)) : Bool := ks.all fun q => decide (kitOne K (.ref (ga K q.1)) (clsV K bn q.2.1) = some q.2.2)
def trB (K : Frag) (ts : List (Str × Str × Bool)) : Bool := ts.all fun q => decide (exmOne K (.ref (ga K q.1)) (.ref (ga K q.2.1)) = some q.2.2)
def errsB (bn : List (Str × String)) (es : List (Str × Str)) (ks ts : List (Str × Str × Bool)) (K : Frag) : Bool := clB K es && (kiB K bn ks && trB K ts)
theorem errFacts_of {Γ : Gam} {K : Frag} {mg : Str → Option Value} (own : List Str) (bn : List (Str × String)) (hb : errsB bn Γ.es Γ.ks Γ.ts K = true) (hg : ∀ x ∈ own, mg x = some (.ref (ga K x)))
    (h1 : (Γ.es.all fun q => own.contains q.1) = true) (h2 : (Γ.ks.all fun q => own.contains q.1 && ((bn.lookup q.2.1).isSome || own.contains q.2.1)) = true) (h3 : (Γ.ts.all fun q => own.contains q.1 && own.contains q.2.1) = true)
    (hn : ∀ x n, bn.lookup x = some n → mg x = none ∧ bootBuiltins x = some (.type n) ∧ x ≠ "__name__") (gc : ∀ q ∈ Γ.gs, ∃ u v, mg q.1 = some u ∧ RelV v u ∧ ∀ B, Rp K B v q.2) : ErrFacts Γ K mg where
  cl := fun q hq C hC => by
    obtain ⟨b1, _⟩ := Bool.and_eq_true_iff.mp hb
    have z := List.all_eq_true.mp b1 q hq
    simp only [Bool.and_eq_true] at z
    obtain ⟨z1, z2, z3⟩ := z
    rw [hg _ (List.contains_iff_mem.mp (List.all_eq_true.mp h1 q hq))] at hC
    cases hC
    exact ⟨xfB_ok z1, excB_ok z2, eqO_ok z3⟩
  ki := fun q hq C hC => by
    obtain ⟨_, b2⟩ := Bool.and_eq_true_iff.mp hb
    obtain ⟨b2, _⟩ := Bool.and_eq_true_iff.mp b2
    have z := of_decide_eq_true (List.all_eq_true.mp b2 q hq)
    have y := List.all_eq_true.mp h2 q hq
    simp only [Bool.and_eq_true] at y
    obtain ⟨y1, y2⟩ := y
    rw [hg _ (List.contains_iff_mem.mp y1)] at hC
    cases hC
    unfold clsV at z
    cases e : bn.lookup q.2.1 with
    | some n =>
      rw [e] at z
      obtain ⟨n1, n2, n3⟩ := hn _ _ e
      exact .inr ⟨n, n1, n2, n3, z⟩
    | none =>
      rw [e] at z y2
      exact .inl ⟨_, hg _ (List.contains_iff_mem.mp (by simpa using y2)), z⟩
  tr := fun q hq C hC => by
    obtain ⟨_, b2⟩ := Bool.and_eq_true_iff.mp hb
    obtain ⟨_, b3⟩ := Bool.and_eq_true_iff.mp b2
    have z := of_decide_eq_true (List.all_eq_true.mp b3 q hq)
    have y := List.all_eq_true.mp h3 q hq
    simp only [Bool.and_eq_true] at y
    rw [hg _ (List.contains_iff_mem.mp y.1)] at hC
    cases hC
    exact ⟨_, hg _ (List.contains_iff_mem.mp y.2), z⟩
  gc := gc
/-! ### defs that may raise, in the table -/
section
variable {P : Program} {w : World} {K : Frag} {mg : Str → Option Value} {base : Heap}
theorem fog_step {k : Nat} {f : Str} {st : Stmt} {N ps : List Str} {Γ : Gam} {I : IF} {cl : Cl} {es : List (Str × Str)} (h : Hv K mg f st ps) (S : FnScope N ps (defScope st)) (hh : Γ.hot = false) (hK : Γ.K = K) (hN : Γ.N = N) (hsc : Γ.sc = defScope st) (he : Γ.es = es) (hb : SSsX Γ (defBody st) I.body) (hn : I.n = N.length)
    (hcl : ∀ as s, cl f as s = runI ps.length Γ.cl I as s) (hcx : ∀ as s, cl (bang f) as s = runX ps.length Γ.cl I as s) (a : Av P w K mg base k Γ) (hio : Γ.io = none := by rfl) (hfr : Γ.fr = false := by rfl) : FoG P w K mg base (k + 1) es cl f := by
  obtain ⟨fa, fd, dvs, F, hm, hbn⟩ := h
  subst he
  exact ⟨fa, fd, ps, fnx_ok F S hh hK hN hsc hb hn hcl hcx a hio hfr, hm, F.kp, hbn⟩
theorem fod_zero {k : Nat} {es : List (Str × Str)} {f : Str} {cs : List Cst} {st : Stmt} {ps : List Str} (h : HvD K mg f st ps cs) : ∃ fa fd ps us, FnOk P w K mg base (L2N.CX P w) k fa fd ps (spG mg es K noCl f) ∧ mg f = some (.ref fa) ∧ keepIn K (.ref fa) = true ∧ Binds K fd ps us ∧ Vals (cs.map Cst.v) us := by
  obtain ⟨fa, fd, dvs, us, F, hm, hb, hv⟩ := h
  have no : ∀ vs H Q E, ¬ spG mg es K noCl f vs H Q E := fun vs H Q E q => by
    obtain ⟨_, _, _, _, _, _, _, _, q⟩ := q
    rcases q with ⟨_, _, e, _⟩ | ⟨_, _, _, e, _⟩
    · cases e
    · cases e
  exact ⟨fa, fd, ps, us, ⟨fun vs H Q E q => (no _ _ _ _ q).elim, fun A outer s H args us vs Q E _ _ _ _ q => (no _ _ _ _ q).elim⟩, hm, F.kp, hb, hv⟩
theorem fod_step {k : Nat} {f : Str} {cs : List Cst} {st : Stmt} {N ps : List Str} {Γ : Gam} {I : IF} {cl : Cl} {es : List (Str × Str)} (h : HvD K mg f st ps cs) (S : FnScope N ps (defScope st)) (hh : Γ.hot = false) (hK : Γ.K = K) (hN : Γ.N = N) (hsc : Γ.sc = defScope st) (he : Γ.es = es) (hb : SSsX Γ (defBody st) I.body) (hn : I.n = N.length)
    (hcl : ∀ as s, cl f as s = runI ps.length Γ.cl I as s) (hcx : ∀ as s, cl (bang f) as s = runX ps.length Γ.cl I as s) (a : Av P w K mg base k Γ) (hio : Γ.io = none := by rfl) (hfr : Γ.fr = false := by rfl) : ∃ fa fd ps us, FnOk P w K mg base (L2N.CX P w) (k + 1) fa fd ps (spG mg es K cl f) ∧ mg f = some (.ref fa) ∧ keepIn K (.ref fa) = true ∧ Binds K fd ps us ∧ Vals (cs.map Cst.v) us := by
  obtain ⟨fa, fd, dvs, us, F, hm, hbn, hv⟩ := h
  subst he
  exact ⟨fa, fd, ps, us, fnx_ok F S hh hK hN hsc hb hn hcl hcx a hio hfr, hm, F.kp, hbn, hv⟩
end
/-! ### constants -/
theorem gc_int {K : Frag} {mg : Str → Option Value} {x : Str} {i : Int} (h : ∃ t, mg x = some (.int i t)) : ∃ u v, mg x = some u ∧ RelV v u ∧ ∀ B, Rp K B v (.int i) := by
  obtain ⟨t, h⟩ := h
  exact ⟨_, .int i, h, ⟨t, rfl⟩, fun _ => .int i⟩
theorem gc_str {K : Frag} {mg : Str → Option Value} {x s : Str} (h : ∃ t, mg x = some (.str s t)) : ∃ u v, mg x = some u ∧ RelV v u ∧ ∀ B, Rp K B v (.str s) := by
  obtain ⟨t, h⟩ := h
  exact ⟨_, .str s, h, ⟨t, rfl⟩, fun _ => .str s⟩
/-- a flat constant, as the head tells it -/
def dvD : Cst → Dv
  | .non => .non
  | .bl b => .bl b
  | .int i => .int i
  | .str s => .str s
theorem dv_rp {K : Frag} {B : Hp} : ∀ cs : List Cst, RpA K B ((cs.map dvD).map (Dv.v K)) (cs.map Cst.d)
  | [] => .nil
  | c :: cs => .cons (by cases c <;> constructor) (dv_rp cs)
theorem gc_tup {K : Frag} {mg : Str → Option Value} {x : Str} (cs : List Cst) (h : mg x = some (.ref (ga K x))) (hb : tupB K x (cs.map dvD) = true) : ∃ u v, mg x = some u ∧ RelV v u ∧ ∀ B, Rp K B v (.tuple (cs.map Cst.d)) :=
  ⟨_, .ref (ga K x), h, rfl, fun B => .tup (tupB_ok hb B) (dv_rp cs)⟩
/-! ### an own error -/
theorem errFo_of {P : Program} {w : World} {K : Frag} {mg : Str → Option Value} {base : Heap} {d : ErrD} {n : Nat} {sn x : Str} {p0 p1 p2 p3 p4 p5 p6 pm pos pos' : Pos} {m1 m2 : Expr} {ms : List Expr} {ar : Arg} {pl : Env → Sem Bool} {k : Nat}
    (e : errW K d.x = d.val) (b : errB P K d.x d.fld = true) (hg : mg d.x = some (.ref (ga K d.x))) (hs : mg "super" = none) (ht : (P.main.scope.names.lookup ("super" : Str)).isSome = false) (hsc : NScope [sn, x, ("__class__" : Str)] [sn, x] [("__class__" : Str)] d.scope)
    (har : (d.params.posonlyargs ++ d.params.args).head? = some ar) (hsn : ar.arg = sn) (hks : d.scope.names.lookup ("super" : Str) = some .globalImplicit)
    (hb : d.body = [.Expr (.Call (.Attribute (.Call (.Name "super" p0) [] [] p1) "__init__" p2) [.JoinedStr (m1 :: m2 :: ms) pm] [] pos) pos', .Assign [.Attribute (.Name sn p3) d.fld p4] (.Name x p5) p6])
    (hm : Msg x (m1 :: m2 :: ms) n) (hn : n ≤ 90000) (d1 : (sn == ("__debug__" : Str)) = false) (d2 : (sn == ("__classdict__" : Str)) = false) (d3 : (x == ("__debug__" : Str)) = false) (d4 : (x == ("__classdict__" : Str)) = false)
    (hc : ∀ env, eval (.Call (.Attribute (.Call (.Name "super" p0) [] [] p1) "__init__" p2) [.JoinedStr (m1 :: m2 :: ms) pm] [] pos) env = (do
      let ov ← attributeBase (.Call (.Name "super" p0) [] [] p1) "__init__" env (eval (.Call (.Name "super" p0) [] [] p1) env)
      standAt p2.atName
      let (f, first) ← holding [ov] (getMethod ov "__init__" (pl env))
      callWith pos f first (backTo pos (starEach [.JoinedStr (m1 :: m2 :: ms) pm] env)) (backToKw pos (keywordEach [] env))))
    (hs1 : ∀ env, swapsWith (.Call (.Attribute (.Call (.Name "super" p0) [] [] p1) "__init__" p2) [.JoinedStr (m1 :: m2 :: ms) pm] [] pos) none pos'.line env = pure false) (hs2 : ∀ env, swapsWith (.Name x p5) (some (.Attribute (.Name sn p3) d.fld p4)) p6.line env = pure false)
    (hbd : ∀ (doc pm ct : Value) (us : List Value), us.length = 2 → bindArgs ((d.F K).fd doc pm ct) ⟨us, []⟩ = pure (([sn, x] : List Str).zip us)) : ∃ C, ErrFo P w K mg base (k + 2) d.x d.fld C := by
  obtain ⟨E0, h1, h2⟩ := err_ok (sn := sn) e b hs ht
  obtain ⟨fd, ⟨doc, pmm, ct, rfl⟩, FI⟩ := init1_ok (CX := L2N.CX P w) (P := P) (w := w) (base := base) (k := 0) E0 hsc har hsn hks hb hm hn d1 d2 d3 d4 hc hs1 hs2
  exact ⟨_, hg, E0.oex, _, _, 1, [sn, x], by omega, h1, h2, FI, .all (hbd doc pmm ct)⟩
end Ip

set_option Elab.async false
set_option linter.all false
set_option maxRecDepth 100000
set_option maxHeartbeats 4000000
/-! A generator's if and for. -/
namespace L2N
open PySem PySem.Spec PyProof.Rows GenW L2
section
variable {M0 : Model} {Ar : Around} {Re : GenEnd} {Yy : Protocol} {nn : Nat} {z₀ z : Shared} {co : Code} {fr : List Frame} {en : Env}
  {Kk : Flow → Sem PySem.Fin} {Hh : Value → Sem PySem.Fin} {gg : Bool → Bool} {ll : List Value → List Value}
theorem sg_if {tst : Expr} {b1 b2 : List Stmt} {ps : Pos}
    (h : wpAny M0 (Ar.over co fr) (isTrue tst en (eval tst en)) (fun b z1 => Seg M0 Ar Re Yy nn z₀ co ((execs (if b = true then b1 else b2) en).wrap Kk Hh gg ll) fr z1) (fun x z1 => Seg M0 Ar Re Yy nn z₀ co (Hh x) fr z1) z) :
    Seg M0 Ar Re Yy nn z₀ co ((exec (.If tst b1 b2 ps) en).wrap Kk Hh gg ll) fr z := by
  rw [exec_If]
  show Seg M0 Ar Re Yy nn z₀ co (.at ps fun _ => ((isTrue tst en (eval tst en)) >>= fun b => if b = true then execs b1 en else execs b2 en).wrap Kk Hh gg ll) fr z
  refine seg_at ?_
  rw [Sem.bind_eq_wrap', Sem.wrap_wrap]
  refine seg_wrap (wpAny_mono h (fun b z1 hb => ?_) fun _ _ x => x)
  cases b with
  | true => exact hb
  | false => exact hb
theorem sg_for {tgt itr : Expr} {bd : List Stmt} {ps : Pos} (hs : ∀ x, foldedSetIterable itr en x = pure x)
    (h : wpAny M0 (Ar.over co fr) (eval itr en) (fun v z1 => wpAny M0 (Ar.over co fr) (pyIter v) (fun it z2 => ∀ p, Seg M0 Ar Re Yy nn z₀ (.forLoop tgt it bd [] en) (M0.den (.forLoop tgt it bd [] en))
        (.ret (fun r => ((match r with | .ok f => (.pure f : Sem Flow) | .error e => .raise e).onRaise (cameBack en)).wrap Kk Hh gg ll) none (gg false) (ll []) co p [] :: fr) z2) (fun x z2 => Seg M0 Ar Re Yy nn z₀ co (Hh x) fr z2) z1) (fun x z1 => Seg M0 Ar Re Yy nn z₀ co (Hh x) fr z1) z) :
    Seg M0 Ar Re Yy nn z₀ co ((exec (.For tgt itr bd [] ps) en).wrap Kk Hh gg ll) fr z := by
  rw [exec_For]
  show Seg M0 Ar Re Yy nn z₀ co (.at ps fun _ => ((eval itr en) >>= fun v => (foldedSetIterable itr en v >>= fun x => (standAt itr.pos >>= fun _ => (holding [x] (pyIter x) >>= fun it => runOwn (.forLoop tgt it bd [] en) en)))).wrap Kk Hh gg ll) fr z
  refine seg_at ?_
  rw [Sem.bind_eq_wrap', Sem.wrap_wrap]
  refine seg_wrap (wpAny_mono h (fun v z1 h1 => ?_) fun _ _ x => x)
  rw [hs v]
  show Seg M0 Ar Re Yy nn z₀ co (.at itr.pos fun _ => (holding [v] (pyIter v) >>= fun it => runOwn (.forLoop tgt it bd [] en) en).wrap Kk Hh gg ll) fr z1
  refine seg_at ?_
  rw [Sem.bind_eq_wrap', Sem.wrap_wrap]
  refine seg_wrap (wpAny_holding (wpAny_mono h1 (fun it z2 h2 => ?_) fun _ _ x => x))
  exact seg_call h2
end
section
variable {P : Program} {w : World} {Ar : Around} {Re : GenEnd} {Yy : Protocol} {nn : Nat} {z₀ z : Shared} {fr : List Frame} {en : Env}
/-- what an exception does in a loop's code -/
abbrev away (en : Env) (x : Value) : Sem PySem.Fin := (do noteFrame x en; theTreesLotGoes x : Sem Unit).wrap (fun _ => .raise x) .raise id id
theorem sg_turn {tgt : Expr} {it : Value} {bd : List Stmt}
    (h : wpAny (model P w) (Ar.over (.forLoop tgt it bd [] en) fr) (pyNext it) (fun r z1 => match r with
        | none => Seg (model P w) Ar Re Yy nn z₀ (.forLoop tgt it bd [] en) (.pure (.again (.block [] en))) fr z1
        | some v => wpAny (model P w) (Ar.over (.forLoop tgt it bd [] en) fr) (letOwnedTupleGo tgt it v) (fun _ z2 => wpAny (model P w) (Ar.over (.forLoop tgt it bd [] en) fr) (assign tgt en v) (fun _ z3 =>
            Seg (model P w) Ar Re Yy nn z₀ (.forLoop tgt it bd [] en) ((execs bd en).wrap (fun f => match f with
              | .next | .cont => .pure (.again (.forLoop tgt it bd [] en))
              | .brk => .pure (.done .next)
              | .ret u => .pure (.done (.ret u))) (away en) id id) fr z3)
            (fun x z3 => Seg (model P w) Ar Re Yy nn z₀ (.forLoop tgt it bd [] en) (away en x) fr z3) z2) (fun x z2 => Seg (model P w) Ar Re Yy nn z₀ (.forLoop tgt it bd [] en) (away en x) fr z2) z1)
      (fun x z1 => Seg (model P w) Ar Re Yy nn z₀ (.forLoop tgt it bd [] en) (away en x) fr z1) z) :
    Seg (model P w) Ar Re Yy nn z₀ (.forLoop tgt it bd [] en) ((model P w).den (.forLoop tgt it bd [] en)) fr z := by
  show Seg _ Ar Re Yy nn z₀ _ ((forTurn tgt it bd [] en).onRaise (fun x => do noteFrame x en; theTreesLotGoes x)) fr z
  have hx : ∀ (e : Value), ((do noteFrame e en; theTreesLotGoes e : Sem Unit).bind fun _ => (.raise e : Sem PySem.Fin)) = away en e := fun e => by
    rw [Sem.bind_eq_wrap]
  have same : ∀ (t t' : Sem PySem.Fin) (z' : Shared), t = t' → Seg (model P w) Ar Re Yy nn z₀ (.forLoop tgt it bd [] en) t' fr z' → Seg (model P w) Ar Re Yy nn z₀ (.forLoop tgt it bd [] en) t fr z' := fun t t' z' e h => by
    rw [e]
    exact h
  unfold forTurn
  rw [Sem.onRaise_eq_wrap, Sem.bind_eq_wrap', Sem.wrap_wrap]
  refine seg_wrap (wpAny_standAt ?_)
  rw [Sem.bind_eq_wrap', Sem.wrap_wrap]
  refine seg_wrap (wpAny_onRaise (wpAny_mono h (fun r z1 h1 => ?_) fun x z1 h1 => wpAny_standAt ?_))
  · cases r with
    | none => exact h1
    | some v =>
      show Seg _ Ar Re Yy nn z₀ _ (Sem.wrap _ _ _ _ (letOwnedTupleGo tgt it v >>= fun _ => (assign tgt en v >>= fun _ => (execs bd en >>= fun f => match f with
        | .next | .cont => again (.forLoop tgt it bd [] en)
        | .brk => pure (.done .next)
        | .ret u => pure (.done (.ret u)))))) fr z1
      rw [Sem.bind_eq_wrap', Sem.wrap_wrap]
      refine seg_wrap (wpAny_mono h1 (fun _ z2 h2 => ?_) fun x z2 h2 => ?_)
      · rw [Sem.bind_eq_wrap', Sem.wrap_wrap]
        refine seg_wrap (wpAny_mono h2 (fun _ z3 h3 => ?_) fun x z3 h3 => ?_)
        · rw [Sem.bind_eq_wrap', Sem.wrap_wrap]
          refine same _ _ _ ?_ h3
          refine Sem.wrap_congr (execs bd en) _ _ (fun f => ?_) fun e => ?_
          · cases f <;> rfl
          · exact hx e
        · refine same _ _ _ (hx x) ?_
          exact h3
      · refine same _ _ _ (hx x) ?_
        exact h2
  · refine same _ _ _ (hx x) ?_
    exact h1
theorem sg_block {en : Env} (h : Seg (model P w) Ar Re Yy nn z₀ (.block [] en) (.pure (.done .next)) fr z) : Seg (model P w) Ar Re Yy nn z₀ (.block [] en) ((model P w).den (.block [] en)) fr z := h
end
end L2N

set_option Elab.async false
set_option linter.all false
set_option maxRecDepth 100000
set_option maxHeartbeats 4000000
/-! A generator's if and for, read over data. -/
namespace L2N
open PySem PySem.Spec PyProof.Rows GenW L2
section
variable {X : Cx}
def tGIf (c : TT) (ta tb : TGn) : TGn := fun D ys σ H => c σ H fun b H1 => if b = true then ta D ys σ H1 else tb D ys σ H1
theorem gen_if {tst : Expr} {b1 b2 : List Stmt} {ps : Pos} {tc : TT} {ta tb : TGn} (hc : PT X tst tc) (h1 : GSs X b1 ta) (h2 : GSs X b2 tb) : GS X (.If tst b1 b2 ps) (tGIf tc ta tb) where
  run := fun Ar S ip Re nn ys z₀ co fr Kk Hh gg ll z σ H D g hn k hI ht => by
    refine sg_if ?_
    rw [g.over]
    obtain ⟨acc, cc, r, I⟩ := hI
    refine wpAny_mono (hc.run _ z σ H _ I ht) (fun b z1 hb => ?_) fun x z1 hx => k.exc nn z₀ x z1 hx
    obtain ⟨H2, I2, q2⟩ := hb
    cases b with
    | true => exact h1.run Ar S ip Re nn ys z₀ co fr Kk Hh gg ll z1 σ H2 D g hn k ⟨acc, cc, r, I2⟩ q2
    | false => exact h2.run Ar S ip Re nn ys z₀ co fr Kk Hh gg ll z1 σ H2 D g hn k ⟨acc, cc, r, I2⟩ q2
/-- W: the invariant of a turn, with a measure -/
def tGFor (wi : TI) (g : TG) (tb : TGn) : TGn := fun D ys σ H => wi σ H fun J H1 => ∃ W : Nat → Nat → List V → St → Hp → Prop, (∃ m, W 0 m ys σ H1) ∧ ∀ i m ys σ H, W i m ys σ H →
  (J.stop i H ∧ D.nx ys σ H) ∨ (J.go i H ∧ ∃ N : List V → St → Hp → Prop, (∀ ys' σ' H', N ys' σ' H' → ∃ m', m' < m ∧ W (i + 1) m' ys' σ' H') ∧ ∀ x H', J.yld i H x H' → g x σ H' fun σ2 H2 => tb { D with nx := N, ct := N, bk := D.nx } ys σ2 H2)
theorem gen_for {tgt itr : Expr} {bd : List Stmt} {ps : Pos} {wi : TI} {tg : TG} {tb : TGn} (hp : PassesOwn (model X.prog X.w) X.A X.env X.xe) (hc : X.calm = true) (hi : PI X tgt itr wi) (hg : PG X tgt tg) (hb : GSs X bd tb)
    (hs : ∀ x, foldedSetIterable itr X.env x = pure x) : GS X (.For tgt itr bd [] ps) (tGFor wi tg tb) where
  run := fun Ar S ip Re nn ys z₀ co fr Kk Hh gg ll z σ H D g hn k hI ht => by
    obtain ⟨acc0, cc0, r0, I0⟩ := hI
    refine sg_for hs ?_
    rw [g.over]
    refine wpAny_mono (hi.run _ z σ H _ I0 ht) (fun v z1 h1 => ?_) fun x z1 hx => k.exc nn z₀ x z1 hx
    refine wpAny_mono h1 (fun itv z2 h2 p => ?_) fun x z2 hx => k.exc nn z₀ x z2 hx
    obtain ⟨it, fp, tn, J, H2, e, I2, T, st2, f2, W, ⟨m0, w0⟩, turn⟩ := h2
    subst e
    have hfp : ∀ b ∈ fp, b ≠ S := fun b hb => ((f2 b hb).2.2.2.2.2 (S, lstObj acc0 cc0) (List.mem_append_right _ List.mem_cons_self)).symm
    have stat : ∀ {a' : Array Value} {c' : Nat} {H' : Hp}, (∀ b ∈ fp, H' b = none) → ∀ b ∈ fp, FpOk X ((S, lstObj a' c') :: ip) H' b := fun hn b hb => ⟨hn b hb, (f2 b hb).2.1, (f2 b hb).2.2.1, (f2 b hb).2.2.2.1, (f2 b hb).2.2.2.2.1, fun q hq => by
      rcases List.mem_append.mp hq with hq | hq
      · exact (f2 b hb).2.2.2.2.2 q (List.mem_append_left _ hq)
      · rcases List.mem_cons.mp hq with rfl | hq
        · exact (hfp b hb).symm
        · exact (f2 b hb).2.2.2.2.2 q (List.mem_append_right _ (List.mem_cons_of_mem _ hq))⟩
    have gl := fun (kk : Result → Sem PySem.Fin) => gc_loop (k := kk) (c' := .forLoop tgt (.ref it) bd [] X.env) (l := ll []) (kp := []) (p := p) g rfl rfl
    have gb := fun (kk : Result → Sem PySem.Fin) => gc_loop (k := kk) (c' := .block [] X.env) (l := ll []) (kp := []) (p := p) g rfl rfl
    have loop : ∀ (m i n : Nat) (ys : List V) (z₀ z : Shared) (σ : St) (H : Hp), n + ys.length = sizeLine → W i m ys σ H → GI X S ip ys σ H z → tn i z.heap → (∀ b ∈ fp, H b = none) →
        Seg (model X.prog X.w) Ar Re (GY X S) n z₀ (.forLoop tgt (.ref it) bd [] X.env) ((model X.prog X.w).den (.forLoop tgt (.ref it) bd [] X.env))
          (.ret (fun r => ((match r with | .ok f => (.pure f : Sem Flow) | .error e => .raise e).onRaise (cameBack X.env)).wrap Kk Hh gg ll) none (gg false) (ll []) co p [] :: fr) z := by
      intro m
      induction m using Nat.strongRecOn with
      | ind m ih =>
        intro i n ys z₀ z σ H hn w hI st fz
        have ee : ∀ (n : Nat) (z₀ : Shared) (x : Value) (z' : Shared), X.xe x z' → Seg (model X.prog X.w) Ar Re (GY X S) n z₀ (.forLoop tgt (.ref it) bd [] X.env) (away X.env x)
            (.ret (fun r => ((match r with | .ok f => (.pure f : Sem Flow) | .error e => .raise e).onRaise (cameBack X.env)).wrap Kk Hh gg ll) none (gg false) (ll []) co p [] :: fr) z' := fun n z₀ x z' hx => by
          refine seg_wrap ?_
          rw [(gl _).over]
          refine wpAny_bind (wpAny_mono (hp x z' hx) (fun _ z'' hcb => wpAny_theTreesLotGoes ?_) fun y z'' hcb => ?_)
          · exact seg_leaf (.error x) (seg_cameBack g k hcb)
          · exact seg_leaf (.error y) (seg_cameBack g k hcb)
        refine sg_turn ?_
        rw [(gl _).over]
        obtain ⟨acc, cc, r, I⟩ := hI
        rcases turn i m ys σ H w with ⟨stop, qn⟩ | ⟨go, N, hN, step⟩
        · refine wpAny_mono (T.done X rfl rfl rfl hc i _ z σ H X.xe I (stat fz) st stop) (fun r z1 h1 => ?_) fun x z1 hx => ee n z₀ x z1 hx
          obtain ⟨rfl, I1⟩ := h1
          refine seg_again rfl (sg_block ?_)
          exact seg_leaf (.ok .next) (k.ok n ys z₀ z1 .next hn ⟨σ, H, ⟨acc, cc, r, I1⟩, qn⟩)
        · refine wpAny_mono (T.item X rfl rfl rfl hc i _ z σ H X.xe I (stat fz) st go) (fun rr z1 h1 => ?_) fun x z1 hx => ee n z₀ x z1 hx
          obtain ⟨u, rfl, h1⟩ := h1
          refine wpAny_mono h1 (fun _ z5 h5 => ?_) fun x z5 hx => ee n z₀ x z5 hx
          obtain ⟨x, H5, I5, r5, y5, st5, fr5⟩ := h5
          have I5' := I5.pinned (stat fr5) (T.obj _ _ st5)
          refine wpAny_mono (hg.run _ z5 σ H5 x u _ I5' r5 (step x H5 y5)) (fun _ z6 h6 => ?_) fun x z6 hx => ee n z₀ x z6 hx
          obtain ⟨σ6, H6, I6, q6⟩ := h6
          have gi : GC X S (ip ++ pinsAt fp z5.heap) Ar (.forLoop tgt (.ref it) bd [] X.env) (.ret (fun r => ((match r with | .ok f => (.pure f : Sem Flow) | .error e => .raise e).onRaise (cameBack X.env)).wrap Kk Hh gg ll) none (gg false) (ll []) co p [] :: fr) id := { gl _ with
            ip := fun q hq => by
              rcases List.mem_append.mp hq with hq | hq
              · exact g.ip q hq
              · exact hfp _ (of_pinsAt hq).1 }
          refine hb.run Ar S (ip ++ pinsAt fp z5.heap) Re n ys z₀ _ _ _ _ id id z6 σ6 H6 { D with nx := N, ct := N, bk := D.nx } gi hn ⟨fun n' ys' z₀' z7 f hn' hs7 => ?_, fun n' z₀' x z7 hx => ee n' z₀' x z7 hx⟩ ⟨acc, cc, r, I6⟩ q6
          have un : ∀ {σ7 : St} {H7 : Hp}, GI X S (ip ++ pinsAt fp z5.heap) ys' σ7 H7 z7 → GI X S ip ys' σ7 H7 z7 ∧ tn (i + 1) z7.heap ∧ ∀ b ∈ fp, H7 b = none := fun {σ7 H7} h7 => by
            obtain ⟨a7, c7, r7, I7⟩ := h7
            have I7' : Inv X (((S, lstObj a7 c7) :: ip) ++ pinsAt fp z5.heap) σ7 H7 z7 := I7
            refine ⟨⟨a7, c7, r7, I7'.unpinned⟩, T.keep _ _ _ st5 fun b hb o e => (I7'.pin (b, o) (List.mem_append_right _ (List.mem_append_right _ (mem_pinsAt hb e)))).1, fun b hb => ?_⟩
            obtain ⟨o, e, d⟩ := T.obj _ _ st5 b hb
            exact (I7'.pin (b, o) (List.mem_append_right _ (List.mem_append_right _ (mem_pinsAt hb e)))).2.1
          cases f with
          | next =>
            obtain ⟨σ7, H7, I7, n7⟩ := hs7
            obtain ⟨u1, u2, u3⟩ := un I7
            obtain ⟨m', hm, w7⟩ := hN ys' σ7 H7 n7
            exact seg_again rfl (ih m' hm (i + 1) n' ys' z₀' z7 σ7 H7 hn' w7 u1 u2 u3)
          | cont =>
            obtain ⟨σ7, H7, I7, n7⟩ := hs7
            obtain ⟨u1, u2, u3⟩ := un I7
            obtain ⟨m', hm, w7⟩ := hN ys' σ7 H7 n7
            exact seg_again rfl (ih m' hm (i + 1) n' ys' z₀' z7 σ7 H7 hn' w7 u1 u2 u3)
          | brk =>
            obtain ⟨σ7, H7, I7, n7⟩ := hs7
            exact seg_leaf (.ok .next) (k.ok n' ys' z₀' z7 .next hn' ⟨σ7, H7, (un I7).1, n7⟩)
          | ret u =>
            obtain ⟨x7, σ7, H7, I7, r7, q7⟩ := hs7
            exact seg_leaf (.ok (.ret u)) (k.ok n' ys' z₀' z7 (.ret u) hn' ⟨x7, σ7, H7, (un I7).1, r7, q7⟩)
    exact loop m0 0 nn ys z₀ z2 σ H2 hn w0 ⟨acc0, cc0, r0, I2⟩ st2 fun b hb => (f2 b hb).1
end
end L2N

set_option Elab.async false
set_option linter.all false
set_option maxRecDepth 100000
set_option maxHeartbeats 4000000
/-! A generator def of the shape «for x in range(e): if c: yield v», over data: what list(..) of it comes to. -/
namespace Ip
open PySem L2
theorem GS_weak {X : Cx} {st : Stmt} {t t' : TGn} (h : GS X st t) (w : ∀ D ys σ H, t' D ys σ H → t D ys σ H) : GS X st t' := ⟨fun A S ip R n ys s₀ c fs Kk J gd lv s σ H D g hn k hI ht => h.run A S ip R n ys s₀ c fs Kk J gd lv s σ H D g hn k hI (w D ys σ H ht)⟩
theorem GSs_weak {X : Cx} {st : List Stmt} {t t' : TGn} (h : GSs X st t) (w : ∀ D ys σ H, t' D ys σ H → t D ys σ H) : GSs X st t' := ⟨fun A S ip R n ys s₀ c fs Kk J gd lv s σ H D g hn k hI ht => h.run A S ip R n ys s₀ c fs Kk J gd lv s σ H D g hn k hI (w D ys σ H ht)⟩
/-- what a generator of that shape hands out -/
def TGl (K : PySem.W.Frag) (cl : Cl) (p : Pa) (e : IE) : TGn := fun D ys σ H => ys = [] ∧ ∃ st B M F env out st', Rel K p st B M F env σ H ∧ ev cl e env st = some (.list out, st') ∧
  ∀ xs B' env' σ' H', Ex B B' → Rel K p st' B' M F env' σ' H' → RpA K B' xs out → D.nx xs σ' H'
theorem range_gen {lo : Int} {n : Nat} {g : TG} {tb : TGn} {D : GEnds} {ys : List V} {σ : L2.St} {H : Hp} (Pv : Nat → List V → L2.St → Hp → Prop) (h0 : Pv 0 ys σ H)
    (hs : ∀ i ys σ H, i < n → Pv i ys σ H → g (.int (lo + i)) σ H fun σ2 H2 => tb { D with nx := Pv (i + 1), ct := Pv (i + 1), bk := D.nx } ys σ2 H2) (hd : ∀ ys σ H, Pv n ys σ H → D.nx ys σ H) :
    ∃ W : Nat → Nat → List V → L2.St → Hp → Prop, (∃ m, W 0 m ys σ H) ∧ ∀ i m ys σ H, W i m ys σ H →
      ((Itr lo n).stop i H ∧ D.nx ys σ H) ∨ ((Itr lo n).go i H ∧ ∃ N : List V → L2.St → Hp → Prop, (∀ ys' σ' H', N ys' σ' H' → ∃ m', m' < m ∧ W (i + 1) m' ys' σ' H') ∧ ∀ x H', (Itr lo n).yld i H x H' → g x σ H' fun σ2 H2 => tb { D with nx := N, ct := N, bk := D.nx } ys σ2 H2) := by
  refine ⟨fun i m ys σ H => m = n - i ∧ i ≤ n ∧ Pv i ys σ H, ⟨n, by simp, Nat.zero_le _, h0⟩, ?_⟩
  rintro i m ys σ H ⟨rfl, hi, q⟩
  by_cases hlt : i < n
  · refine .inr ⟨hlt, Pv (i + 1), fun ys' σ' H' q' => ⟨n - (i + 1), by omega, rfl, hlt, q'⟩, fun x H' y => ?_⟩
    obtain ⟨e1, e2⟩ := y
    subst e1 e2
    exact hs i ys σ _ hlt q
  · obtain rfl : i = n := by omega
    exact .inl ⟨Nat.le_refl _, hd ys σ H q⟩
theorem lcF_cases {cl : Cl} {j : Nat} {ic iv : IE} {env : List Sl} {d : D} {st : Pl} {o : Option D} {st3 : Pl} (h : lcF cl j (.cons ic .nil) iv env d st = some (o, st3)) :
    (o = none ∧ ev cl ic (env.set j (.im d)) st = some (.bool false, st3)) ∨ ∃ y st2, o = some y ∧ ev cl ic (env.set j (.im d)) st = some (.bool true, st2) ∧ ev cl iv (env.set j (.im d)) st2 = some (y, st3) := by
  unfold lcF et at h
  split at h
  · rename_i st2 e9
    split at e9
    · rename_i st4 e8
      unfold et at e9
      cases e9
      split at h
      · rename_i y st5 e10
        cases h
        exact .inr ⟨y, st2, rfl, e8, e10⟩
      · cases h
    · cases e9
    · cases e9
  · rename_i st2 e9
    split at e9
    · unfold et at e9
      cases e9
    · rename_i st4 e8
      cases e9
      cases h
      exact .inl ⟨rfl, e8⟩
    · cases e9
  · cases h
theorem gl_for {Γ : Gam} {X : Cx} {p : Pa} {itr c v : Expr} {x : Str} {j : Nat} {ie ic iv : IE} {px p1 p2 p3 yp : Pos} (o : Oks Γ X p) (hh : Γ.hot = false) (hi : SI Γ itr (.rng1 ie)) (ht : SGt Γ (.Name x px) (.one j)) (hc : ST Γ c ic) (hv : SE Γ v iv)
    (hs : ∀ env y, foldedSetIterable itr env y = pure y) (hco : Γ.sc.isCoroutine = false) (hint : interactive X.env = false) :
    GSs X [.For (.Name x px) itr [.If c [.Expr (.Yield (some v) yp) p1] [] p2] [] p3] (TGl Γ.K Γ.cl p (.lc j (.rng1 ie) (.cons ic .nil) iv)) := by
  have hy := gs_yield (yp := yp) (pos := p1) (hv X p o.toOkx) (by rw [o.sc]; exact hco) hint
  refine GSs_weak (gss_cons (L2N.gen_for (ps := p3) o.own (o.calm hh) (hi X p _ o.toOkx) (ht X p o) (gss_cons (L2N.gen_if (ps := p2) (hc X p o.toOkx) (gss_cons hy gss_nil) gss_nil) gss_nil) (hs _)) gss_nil) fun D ys σ H q => ?_
  obtain ⟨rfl, st, B, M, F, env, out, st', r, he, k⟩ := q
  obtain ⟨dz, st1, ys, e1, hl, e2, e3⟩ := ev_lc he
  cases e3
  unfold ei at e1
  split at e1
  · rename_i n st2 e4
    obtain ⟨ys, e5, e6⟩ := Option.map_eq_some_iff.mp e1
    cases e6
    obtain ⟨⟨h1, h2, h3, h4⟩, hlen, hg⟩ := rng_get e5
    refine ⟨st, B, M, F, env, [.int n], _, r, by unfold ea; rw [e4]; rfl, fun vs B1 H1 x1 r1 pv1 => ?_⟩
    match vs, pv1 with
    | [_], .cons (.int _) .nil =>
      refine ⟨n, rfl, h3, h4, ?_⟩
      have e0 : (n - 0).toNat = n.toNat := by rw [Int.sub_zero]
      rw [e0] at hlen hg
      refine range_gen (lo := 0) (n := n.toNat) (fun i ys σ H => ∃ B' sti envi zs rest, Ex B B' ∧ Rel Γ.K p sti B' M F envi σ H ∧ RpA Γ.K B' ys zs ∧ zs.length ≤ i ∧ lcG (lcF Γ.cl j (.cons ic .nil) iv env) (dz.drop i) sti = some (rest, st') ∧ zs ++ rest = out ∧ ∀ d, envi.set j (.im d) = env.set j (.im d))
        ⟨B1, st1, env, [], out, x1, r1, .nil, Nat.le_refl _, e2, rfl, fun _ => rfl⟩ (fun i ys σ' H' hin q => ?_) (fun ys σ' H' q => ?_)
      · obtain ⟨B', sti, envi, zs, rest, x2, r2, rz, hz, e7, e8, e9⟩ := q
        have hd := hg i hin
        have hdr : dz.drop i = .int (0 + (i : Int)) :: dz.drop (i + 1) := List.drop_eq_getElem_cons (List.getElem?_eq_some_iff.mp hd).1 |>.trans (by rw [(List.getElem?_eq_some_iff.mp hd).2])
        rw [hdr] at e7
        refine ⟨sti, B', M, F, envi, _, _, r2, .int _, rfl, fun σ2 r3 => ?_⟩
        rw [e9] at r3
        have e9' : ∀ d, (env.set j (.im (.int (0 + (i : Int))))).set j (.im d) = env.set j (.im d) := fun d => by rw [List.set_set]
        rcases lcG_cons e7 with ⟨st3, e10, e11⟩ | ⟨y, st3, zs', e10, e11, e12⟩
        · rcases lcF_cases e10 with ⟨_, e13⟩ | ⟨_, _, z, _⟩
          · refine ⟨sti, B', M, F, _, false, st3, r3, e13, fun B3 H3 x5 r4 => ?_⟩
            refine iteF ?_
            exact ⟨B3, st3, _, zs, rest, x2.trans x5, r4, rz.mono x5, by omega, e11, e8, e9'⟩
          · cases z
        · rcases lcF_cases e10 with ⟨z, _⟩ | ⟨y2, st4, z, e13, e14⟩
          · cases z
          · cases z
            refine ⟨sti, B', M, F, _, true, st4, r3, e13, fun B3 H3 x5 r4 => ?_⟩
            refine iteT ?_
            refine ⟨most_lt (by rw [rz.length]; omega), st4, B3, M, F, _, _, st3, r4, e14, fun w B4 H4 x6 r5 pw => ?_⟩
            exact ⟨B4, st3, _, zs ++ [y], zs', (x2.trans x5).trans x6, r5, (rz.mono (x5.trans x6)).append (.one pw), by rw [List.length_append]; show zs.length + 1 ≤ i + 1; omega, e11, by rw [List.append_assoc, ← e8, e12]; rfl, e9'⟩
      · obtain ⟨B', sti, envi, zs, rest, x2, r2, rz, hz, e7, e8, e9⟩ := q
        rw [← hlen, List.drop_length] at e7
        unfold lcG at e7
        cases e7
        rw [List.append_nil] at e8
        subst e8
        exact k ys B' _ _ _ x2 r2 rz
  · cases e1
end Ip

set_option Elab.async false
set_option linter.all false
set_option maxRecDepth 100000
set_option maxHeartbeats 4000000
/-! A generator def's promise; list(..) of a call of it. -/
namespace Ip
open PySem L2
section
variable {P : Program} {w : World} {K : PySem.W.Frag} {mg : Str → Option Value} {base : Heap}
theorem passL {Y : Cx} : Passes (L2.CX Y.prog Y.w) Y E0 := fun _ _ _ _ _ _ _ ⟨_, _, _, _, _, _, _, _, _, _, _, _, z⟩ => z.elim
theorem Av.oksG {N : List Str} {qual : Str} {scope : Scope} {f : Addr} {cdv : Value} {A : Around} {outer : List Env} {s : Shared} {H : Hp} {E : XK} {pn : List (Addr × Obj)} {k : Nat} {Γ : Gam} {p : Pa} (a : Av P w K mg base k Γ) (hh : Γ.hot = false) (hK : Γ.K = K) (hN : Γ.N = N) (nd : N.Nodup) (hsc : Γ.sc = scope) (hl : p.lk = noLk) (hio : p.io.map Prod.fst = Γ.io) (hfr : p.fr = Γ.fr) (hr : Room k (A.deeper (PyProof.Rows.envOfC qual scope s.heap.objs.size f cdv))) :
    Oks Γ (gcxOf P w K mg base N qual scope f cdv A outer s H E pn) p :=
  let q : Oks Γ (cxOf (L2N.CX P w) P w K mg base N qual scope f cdv A outer s H E) p := a.oks hh hK hN nd hsc hl hio hfr hr
  { K := q.K, N := q.N, nd := q.nd, sc := q.sc, calm := q.calm, hotc := fun z => by
      rw [hh] at z
      cases z
    units := q.units, fn := q.fn, fnh := q.fnh, bl := q.bl, xn := q.xn, er := fun z x hx => by
      obtain ⟨C, e⟩ := a.er z x hx
      exact ⟨C, e.at_ hr rfl rfl rfl rfl rfl⟩
    df := q.df, gn := q.gn, lk := q.lk, lkh := fun _ _ _ _ z => by
      rw [hl] at z
      exact z.elim
    ef := q.ef, own := owns_gcx, stk := rfl, frm := rfl, fnx := fun _ => rfl, io := q.io, fr := q.fr, fi := q.fi, ff := q.ff }
theorem gl_ok {xn qual : Str} {params : Arguments} {body : List Stmt} {scope : Scope} {f : Addr} {fd : FuncData} {N ps : List Str} {k : Nat} {Γ : Gam} {I : IF} {cl : Cl} {g : Str} {dvs : List V} {kws : List (Str × V)} {itr c v : Expr} {x : Str} {j : Nat} {ie ic iv : IE} {px p1 p2 p3 yp : Pos}
    (F : FunD K xn qual params body scope dvs kws f fd) (S : GScope N ps scope)
    (hh : Γ.hot = false) (hK : Γ.K = K) (hN : Γ.N = N) (hsc : Γ.sc = scope) (hb : body = [.For (.Name x px) itr [.If c [.Expr (.Yield (some v) yp) p1] [] p2] [] p3]) (hi : SI Γ itr (.rng1 ie)) (ht : SGt Γ (.Name x px) (.one j)) (hc : ST Γ c ic) (hv : SE Γ v iv)
    (hs : ∀ env y, foldedSetIterable itr env y = pure y) (hn : I.n = N.length) (hI : I.body = .cons (.ret (.lc j (.rng1 ie) (.cons ic .nil) iv)) .nil)
    (hcl : ∀ as st d st', cl g as st = some (d, st') → as.length = ps.length ∧ runF Γ.cl I as st = some (d, st')) (a : Av P w K mg base k Γ) (hio : Γ.io = none := by rfl) (hfr : Γ.fr = false := by rfl) : GFn P w K mg base (k + 1) f fd ps (spL K cl g) := by
  obtain ⟨oc, od, dV, kV, doc, pm, an, cdv, ct, osl, rfl, lk, hcd, _, _⟩ := F.ex
  subst hb
  refine gfn_of lk hcd S (fun vs H Q E h => ?_) (fun A outer s H vs Q E pn hr h => ?_)
  · obtain ⟨p, st, B, F, as, out, st', _, _, ha, he, _⟩ := h
    rw [ha.length, (hcl _ _ _ _ he).1]
  · obtain ⟨p, st, B, Fz, as, out, st', hl, w1, ha, he, kk⟩ := h
    have co : Γ.sc.isCoroutine = false := by rw [hsc]; exact S.co
    refine ⟨_, gl_for (p := p) (a.oksG hh hK hN S.nd hsc hl.lk (by rw [hl.io, hio]; rfl) (hl.fr.trans hfr.symm) hr) hh hi ht hc hv hs co (by show interactive (PyProof.Rows.envOfC qual scope s.heap.objs.size f cdv) = false; unfold interactive; simp [PyProof.Rows.envOfC, S.kind]), ?_⟩
    have hr2 := (hcl _ _ _ _ he).2
    unfold runF at hr2
    rw [hI, hn] at hr2
    refine ⟨rfl, st, B, fun _ => none, Fz, as.map slOf ++ List.replicate (N.length - as.length) .no, out, st', by rw [hK]; exact rel_start w1 ha, ?_, fun xs B' env' σ' H' x r pv => kk xs B' H' x r.bs (by rw [← hK]; exact pv)⟩
    cases e3 : ev Γ.cl (.lc j (.rng1 ie) (.cons ic .nil) iv) (as.map slOf ++ List.replicate (N.length - as.length) .no) st with
    | none =>
      unfold evSs evS at hr2
      rw [e3] at hr2
      cases hr2
    | some r =>
      obtain ⟨d, st3⟩ := r
      unfold evSs evS at hr2
      rw [e3] at hr2
      cases hr2
      rfl
end
section
variable {Γ : Gam} {e : Expr} {es : List Expr} {ies : IEs} {pos p0 p1 q0 : Pos} {x : Str}
theorem listg_se (h : SG Γ (e :: es) ies) (hf : Γ.gn.contains x = true := by rfl) (hb : Γ.bs.contains "list" = true := by rfl) (hh : Γ.hot = false := by rfl) (hg : GlS Γ.sc x := by rfl) (hgl : GlS Γ.sc "list" := by rfl) (hdb : (x == ("__debug__" : Str)) = false := by decide)
    (he : ∀ env, starEach (e :: es) env = (false, eval e env) :: starEach es env := by intro _; rfl) (hpl : ∀ env, (backTo p1 (starEach es env)).any (·.1) = false := by intro _; rfl)
    (hl : ∀ env, starEach [.Call (.Name x p0) (e :: es) [] p1] env = (false, eval (.Call (.Name x p0) (e :: es) [] p1) env) :: starEach [] env := by intro _; rfl) :
    SE Γ (.Call (.Name "list" q0) [.Call (.Name x p0) (e :: es) [] p1] [] pos) (.call x ies) := fun X p o => by
  obtain ⟨fa, fd, ps, k, F, hm, hk, hbn, hr, hls⟩ := o.gn hh x (List.contains_iff_mem.mp hf)
  have ns : NoStop X.K E0 := fun _ _ _ z => z.elim
  refine PE_weak (pe_listG (pgen_call (E := E0) F (hr.mono (by omega)) (o.gl hg) hm hk hbn .nil (h X p o) hdb (he _) (hpl _)) passL ns hr (o.gl hgl) (o.bl _ (List.contains_iff_mem.mp hb)) (by decide +kernel) (by decide) (by decide) (hl _)) fun σ H Q q => ?_
  obtain ⟨st, B, M, Fz, env, d, st', r, he, kk⟩ := q
  unfold ev at he
  split at he
  · rename_i ys st1 e1
    obtain ⟨out, rfl⟩ := hls _ _ _ _ he
    refine ⟨st, B, M, Fz, env, ys, st1, r, e1, fun vs B1 H1 x1 r1 pa => ?_⟩
    show spL Γ.K Γ.cl x (vs ++ []) H1 _ E0
    rw [List.append_nil]
    refine ⟨p.o, st1, B1, uni M Fz, ys, out, st', ⟨rfl, rfl, rfl⟩, r1.call.o, pa.o, he, fun xs B' H' x2 w pv q hq => ?_⟩
    have r2 := r1.back x2 w.u
    have f := r2.fr hq
    have r3 := (r2.put (o := .lst xs) f).know upd_same f.b f.m f.f f.p
    have x3 : Ex B' (upd B' q (.lst xs)) := fun b u hb => by
      by_cases hbq : b = q
      · subst hbq
        rw [f.b] at hb
        cases hb
      · rw [upd_ne hbq]
        exact hb
    exact kk _ _ _ ((x1.trans x2).trans x3) r3 (.lst upd_same (pv.mono x3))
  · cases he
end
end Ip

set_option Elab.async false
set_option linter.all false
set_option maxRecDepth 100000
set_option maxHeartbeats 4000000
/-! tuple(sorted(x)), x an own list of texts. -/
namespace Ip
open PySem L2 PySem.Spec
theorem lc_nil (a : Nat) (r : List Nat) : ltCps [] (a :: r) = true := rfl
theorem lc_cons (a b : Nat) (r t : List Nat) : ltCps (a :: r) (b :: t) = (if a < b then true else if b < a then false else ltCps r t) := by
  show (decide (a < b) || (a == b && ltCps r t)) = _
  by_cases x : a < b
  · rw [if_pos x, decide_eq_true x]
    rfl
  · by_cases y : b < a
    · have e : (a == b) = false := by
        rw [beq_eq_false_iff_ne]
        omega
      rw [if_neg x, if_pos y, decide_eq_false x, e]
      rfl
    · have e : (a == b) = true := by
        rw [beq_iff_eq]
        omega
      rw [if_neg x, if_neg y, decide_eq_false x, e]
      simp
theorem lc_anti : ∀ {a b : List Nat}, ltCps a b = false → ltCps b a = false → a = b
  | [], [], _, _ => rfl
  | [], _ :: _, h, _ => by rw [lc_nil] at h; cases h
  | _ :: _, [], _, h => by rw [lc_nil] at h; cases h
  | a :: r, b :: t, h1, h2 => by
    rw [lc_cons] at h1 h2
    by_cases x : a < b
    · rw [if_pos x] at h1
      cases h1
    · by_cases y : b < a
      · rw [if_pos y] at h2
        cases h2
      · rw [if_neg x, if_neg y] at h1
        rw [if_neg y, if_neg x] at h2
        rw [show a = b by omega, lc_anti h1 h2]
theorem lc_trans : ∀ {a b c : List Nat}, ltCps b a = false → ltCps c b = false → ltCps c a = false
  | [], _, [], _, _ => rfl
  | [], _, _ :: _, _, _ => rfl
  | _ :: _, [], _, h1, _ => by rw [lc_nil] at h1; cases h1
  | _ :: _, _ :: _, [], _, h2 => by rw [lc_nil] at h2; cases h2
  | a :: r, b :: t, c :: u, h1, h2 => by
    rw [lc_cons] at h1 h2 ⊢
    by_cases x : b < a
    · rw [if_pos x] at h1
      cases h1
    by_cases y : c < b
    · rw [if_pos y] at h2
      cases h2
    rw [if_neg x] at h1
    rw [if_neg y] at h2
    by_cases z : c < a
    · omega
    rw [if_neg z]
    by_cases w : a < c
    · rw [if_pos w]
    · rw [if_neg w]
      have e1 : a = b := by omega
      have e2 : b = c := by omega
      rw [if_neg (by omega)] at h1 h2
      exact lc_trans h1 h2
theorem lc_total (a b : List Nat) : ltCps b a = false ∨ ltCps a b = false := by
  induction a generalizing b with
  | nil => cases b with
    | nil => exact .inl rfl
    | cons b t => exact .inl rfl
  | cons a r ih => cases b with
    | nil => exact .inr rfl
    | cons b t =>
      rw [lc_cons, lc_cons]
      by_cases x : b < a
      · exact .inr (by rw [if_neg (by omega : ¬ a < b), if_pos x])
      · by_cases y : a < b
        · exact .inl (by rw [if_neg x, if_pos y])
        · rw [if_neg x, if_neg y, if_neg y, if_neg x]
          exact ih t
/-- no later one is less -/
def leS (a b : Str) : Prop := ltCps b.cps.toList a.cps.toList = false
theorem rising_all : ∀ {l : List Str} {x : Str}, PyProof.Rows.risingS x l = true → (x :: l).Pairwise leS
  | [], x, _ => List.pairwise_singleton _ _
  | y :: l, x, h => by
    have h' : (!ltCps y.cps.toList x.cps.toList && PyProof.Rows.risingS y l) = true := h
    rw [Bool.and_eq_true_iff] at h'
    have ih := rising_all h'.2
    have hxy : leS x y := by
      unfold leS
      simpa using h'.1
    refine List.pairwise_cons.mpr ⟨fun z hz => ?_, ih⟩
    rcases List.mem_cons.mp hz with rfl | hz
    · exact hxy
    · exact lc_trans hxy (List.rel_of_pairwise_cons ih hz)
theorem sorted_all {l : List Str} (h : PyProof.Rows.sortedS l = true) : l.Pairwise leS := by
  cases l with
  | nil => exact .nil
  | cons x l => exact rising_all h
theorem sorted_one : ∀ {a b : List Str}, a.Perm b → a.Pairwise leS → b.Pairwise leS → a = b
  | [], b, h, _, _ => (List.Perm.nil_eq h)
  | a :: l, [], h, _, _ => by
    have := h.length_eq
    simp at this
  | a :: l, b :: m, h, ha, hb => by
    have e : a = b := by
      have h1 : b ∈ a :: l := h.mem_iff.mpr (List.mem_cons_self ..)
      have h2 : a ∈ b :: m := h.mem_iff.mp (List.mem_cons_self ..)
      rcases List.mem_cons.mp h1 with z | h1
      · exact z.symm
      · rcases List.mem_cons.mp h2 with z | h2
        · exact z
        · have l1 := List.rel_of_pairwise_cons ha h1
          have l2 := List.rel_of_pairwise_cons hb h2
          have q := lc_anti l2 l1
          obtain ⟨⟨x⟩⟩ := a
          obtain ⟨⟨y⟩⟩ := b
          have q' : x = y := q
          rw [q']
    subst e
    rw [sorted_one (List.Perm.cons_inv h) (List.pairwise_cons.mp ha).2 (List.pairwise_cons.mp hb).2]
theorem srt_sorted (ss : List Str) : (srtS ss).Pairwise leS := by
  have := List.pairwise_mergeSort (le := fun a b : Str => !ltCps b.cps.toList a.cps.toList) (fun a b c h1 h2 => by
    simp only [Bool.not_eq_true'] at h1 h2 ⊢
    exact lc_trans h1 h2) (fun a b => by
    rcases lc_total a.cps.toList b.cps.toList with h | h <;> simp [h]) ss
  refine this.imp fun h => ?_
  unfold leS
  simpa using h
theorem srt_perm (ss : List Str) : (srtS ss).Perm ss := List.mergeSort_perm ss _
theorem srt_is {ss ys : List Str} (h : ys.Perm ss) (hs : PyProof.Rows.sortedS ys = true) : ys = srtS ss := sorted_one (h.trans (srt_perm ss).symm) (sorted_all hs) (srt_sorted ss)
/-- texts among values -/
theorem strs_of {K : PySem.W.Frag} {B : Hp} : ∀ {ds : List D} {xs : List V} {ss : List Str}, strsD ds = some ss → RpA K B xs ds → xs = ss.map V.str
  | [], [], ss, h, .nil => by
    cases h
    rfl
  | .str s :: ds, _ :: xs, ss, h, .cons p r => by
    have h' : (strsD ds).map (fun ss => s :: ss) = some ss := h
    obtain ⟨zs, h1, rfl⟩ := Option.map_eq_some_iff.mp h'
    cases p
    rw [strs_of h1 r]
    rfl
theorem rpa_strs {K : PySem.W.Frag} {B : Hp} : ∀ ss : List Str, RpA K B (ss.map V.str) (ss.map PyData.str)
  | [] => .nil
  | s :: ss => .cons (.str s) (rpa_strs ss)
theorem tsr_se {Γ : Gam} (n : Nat) {y : Str} {p0 p1 p2 pos1 pos : Pos} (hN : Γ.N[n]? = some y := by rfl) (hv : Vis Γ.sc y := by first | exact Or.inl rfl | exact Or.inr (Or.inl rfl) | exact Or.inr (Or.inr rfl)) (hd : (y == ("__debug__" : Str)) = false := by decide) (hcd : (y == ("__classdict__" : Str)) = false := by decide)
    (hb : Γ.bs.contains "sorted" = true := by rfl) (hb2 : Γ.bs.contains "tuple" = true := by rfl) (hg : GlS Γ.sc "sorted" := by rfl) (hg2 : GlS Γ.sc "tuple" := by rfl) (hs : ∀ env, starEach [.Name y p0] env = (false, eval (.Name y p0) env) :: starEach [] env := by intro _; rfl)
    (hs2 : ∀ env, starEach [.Call (.Name "sorted" p1) [.Name y p0] [] pos1] env = (false, eval (.Call (.Name "sorted" p1) [.Name y p0] [] pos1) env) :: starEach [] env := by intro _; rfl) :
    SE Γ (.Call (.Name "tuple" p2) [.Call (.Name "sorted" p1) [.Name y p0] [] pos1] [] pos) (.tsr n) := fun X p o =>
  PE_weak (pe_callTy call_tuple_of (o.gl hg2) (o.bl _ (List.contains_iff_mem.mp hb2)) (by decide +kernel) (pa_cons (pe_callB cr_sortedS (o.gl hg) (o.bl _ (List.contains_iff_mem.mp hb)) (by decide +kernel) (pa_cons (pe_var (i := n) (by rw [o.N]; exact hN) (by rw [o.sc]; exact hv) hd hcd) pa_nil (hs _)) (by decide) (by decide) (hs _) rfl) pa_nil (hs2 _)) (by decide) (by decide) (hs2 _) rfl) fun σ H Q q => by
    obtain ⟨st, B, M, F, env, d, st', r, he, k⟩ := q
    unfold ev at he
    split at he
    · rename_i ds e1
      obtain ⟨z, e2, e3⟩ := Option.map_eq_some_iff.mp he
      cases e3
      unfold srtD at e2
      split at e2
      · rename_i ss e4
        obtain ⟨hl, rfl⟩ := ite_some e2
        obtain ⟨ov, h1, h2⟩ := r.en.at_ n _ e1
        cases ov with
        | none => exact h2.elim
        | some v =>
          cases v with
          | ref a =>
            obtain ⟨xs, h3, h4⟩ := h2
            have ex := strs_of e4 h4
            subst ex
            refine ⟨_, h1, a, ss, rfl, Or.inl (Or.inl (r.m _ _ h3)), hl, fun ys q1 hp hsr hq => ?_⟩
            rw [srt_is hp hsr]
            have f := r.fr hq
            have r2 := r.put (o := .lst ((srtS ss).map V.str)) f
            refine ⟨q1, (srtS ss).map V.str, rfl, .inl ⟨Or.inl (Or.inl upd_same), fun l hl2 => ?_⟩⟩
            exact k (.ref l) _ _ (Ex.new (r2.bs.b.free hl2)) (r2.new hl2) (.tup (Or.inl (Or.inl upd_same)) (rpa_strs _))
          | _ => exact h2.elim
      · cases e2
    · cases he
end Ip

set_option Elab.async false
set_option linter.all false
set_option maxRecDepth 100000
set_option maxHeartbeats 4000000
/-! Own lists lent to a test; list(x); a generator def's step in the table. -/
namespace Ip
open PySem L2
/-- the own lists come back behind a test that looked at them -/
theorem Rel.giveBack {K : PySem.W.Frag} {p : Pa} {st st' : Pl} {B M F H B1 M1 B' H' : Hp} {env env1 : List Sl} {σ : L2.St} (r : Rel K p st B M F env σ H) (x1 : Ex B B1) (y1 : ∀ b u, M b = some u → M1 b = some u ∨ B1 b = some u) (x : Ex B1 B') (r' : Rel K p st' B' M1 F env1 σ H') :
    ∃ B2, Ex B B2 ∧ Rel K p st' B2 M F env σ H' ∧ ∀ b u, B2 b = some u → B' b = some u := by
  have x' : Ex B (fun b => match M b with | some _ => none | none => B' b) := fun b u hb => by
    have hm : M b = none := by
      cases hm : M b with
      | none => rfl
      | some w =>
        rw [(r.md b w hm).1] at hb
        cases hb
    show (match M b with | some _ => none | none => B' b) = _
    rw [hm]
    exact x b u (x1 b u hb)
  have le : ∀ b u, (match M b with | some _ => none | none => B' b) = some u → B' b = some u := fun b u hb => by
    cases hm : M b with
    | none =>
      rw [hm] at hb
      exact hb
    | some w =>
      rw [hm] at hb
      cases hb
  refine ⟨_, x', ⟨⟨fun b u hb => r'.bs.b b u (le b u hb), r'.bs.f, fun b u hb => ?_, r'.bs.pf, ?_, r'.bs.pl.1, ?_⟩, fun b u hb => ?_, fun b u hb => ⟨?_, (r.md b u hb).2⟩, r.en.mono x'⟩, le⟩
  · show (match M b with | some _ => none | none => B' b) = none
    have := r'.bs.d b u hb
    cases M b with
    | none => exact this
    | some w => rfl
  · show (match M p with | some _ => none | none => B' p) = none
    have := r'.bs.pb
    cases M p with
    | none => exact this
    | some w => rfl
  · have hq : M p.q = none := by
      cases hm : M p.q with
      | none => rfl
      | some w =>
        have h1 := r.bs.pl.2
        rw [(r.md _ w hm).1] at h1
        cases h1
    show (match M p.q with | some _ => none | none => B' p.q) = _
    rw [hq]
    exact r'.bs.pl.2
  · rcases y1 b u hb with h1 | h1
    · exact r'.m b u h1
    · exact r'.bs.b b u (x b u h1)
  · show (match M b with | some _ => none | none => B' b) = none
    rw [hb]
theorem st_lent {Γ : Gam} {e : Expr} {i : IE} (is : List Nat) (h : ST Γ e i) : ST Γ e (.lent is i) := fun X p o => PT_weak (h X p o) fun σ H Q q => by
  obtain ⟨st, B, M, F, env, b, st', r, he, kk⟩ := q
  obtain ⟨B1, M1, x1, y1, r1⟩ := r.freezeAll is
  unfold ev at he
  split at he
  · rename_i y st1 e1
    split at he
    · cases he
      refine ⟨st, B1, M1, F, _, b, st', r1, e1, fun B' H' x r' => ?_⟩
      obtain ⟨B2, x2, r2, _⟩ := r.giveBack x1 y1 x r'
      exact kk B2 H' x2 r2
    · cases he
  · cases he
theorem list_se {Γ : Gam} {e : Expr} {i : IE} {p0 pos : Pos} (h : SE Γ e i) (hb : Γ.bs.contains "list" = true := by rfl) (hg : GlS Γ.sc "list" := by rfl) (hs : ∀ env, starEach [e] env = (false, eval e env) :: starEach [] env := by intro _; rfl) :
    SE Γ (.Call (.Name "list" p0) [e] [] pos) (.bi .list (.cons i .nil)) := fun X p o =>
  PE_weak (pe_callTy call_list_of (o.gl hg) (o.bl _ (List.contains_iff_mem.mp hb)) (by decide +kernel) ((sa_cons h sa_nil hs) X p o) (by decide) (by decide) (hs _) rfl) fun σ H Q q => by
    refine tx_bi ?_ q
    intro st B M F env v d z H r pv e2 Q k
    rw [o.K]
    cases pv with
    | @lst a xs ds hx rx =>
      cases e2
      exact ⟨a, xs, rfl, .inl (Or.inl (Or.inl (r.bs.b _ _ hx))), fun l hl => k (.ref l) _ _ (Ex.new (r.bs.b.free hl)) (r.new hl) (.lst upd_same (rx.mono (Ex.new (r.bs.b.free hl))))⟩
    | @tup a xs ds hx rx =>
      cases e2
      exact ⟨a, xs, rfl, .inr (sqt_mono r.bs.b hx), fun l hl => k (.ref l) _ _ (Ex.new (r.bs.b.free hl)) (r.new hl) (.lst upd_same (rx.mono (Ex.new (r.bs.b.free hl))))⟩
    | _ => cases e2
section
variable {P : Program} {w : World} {K : PySem.W.Frag} {mg : Str → Option Value} {base : Heap}
theorem Fo.up {j k : Nat} {cl : Cl} {f : Str} (h : Fo P w K mg base j cl f) (l : j ≤ k) : Fo P w K mg base k cl f := by
  obtain ⟨fa, fd, ps, F, q⟩ := h
  exact ⟨fa, fd, ps, F.mono l, q⟩
theorem fol_zero {k : Nat} {f : Str} {st : Stmt} {ps : List Str} (h : Hv K mg f st ps) : FoL P w K mg base (k + 3) noCl f := by
  obtain ⟨fa, fd, dvs, F, hm, hb⟩ := h
  have no : ∀ vs H Q E, ¬ spL K noCl f vs H Q E := fun vs H Q E q => by
    obtain ⟨_, _, _, _, _, _, _, _, _, _, e, _⟩ := q
    cases e
  exact ⟨fa, fd, ps, k, Nat.le_refl _, ⟨fun vs H Q E q => (no _ _ _ _ q).elim, fun A outer s H args us vs Q E _ _ _ _ q => (no _ _ _ _ q).elim⟩, hm, F.kp, hb, fun _ _ _ _ e => by cases e⟩
theorem fol_step {k : Nat} {f : Str} {st : Stmt} {N ps : List Str} {Γ : Gam} {I : IF} {cl : Cl} {itr c v : Expr} {x : Str} {j : Nat} {ie ic iv : IE} {px p1 p2 p3 yp : Pos} (h : Hv K mg f st ps) (S : GScope N ps (defScope st)) (hh : Γ.hot = false) (hK : Γ.K = K) (hN : Γ.N = N) (hsc : Γ.sc = defScope st)
    (hb : defBody st = [.For (.Name x px) itr [.If c [.Expr (.Yield (some v) yp) p1] [] p2] [] p3]) (hI : I.body = .cons (.ret (.lc j (.rng1 ie) (.cons ic .nil) iv)) .nil) (hi : SI Γ itr (.rng1 ie)) (ht : SGt Γ (.Name x px) (.one j)) (hc : ST Γ c ic) (hv : SE Γ v iv)
    (hs : ∀ env y, foldedSetIterable itr env y = pure y) (hn : I.n = N.length) (hcl : ∀ as s, cl f as s = runI ps.length Γ.cl I as s) (a : Av P w K mg base k Γ) (hio : Γ.io = none := by rfl) (hfr : Γ.fr = false := by rfl) : FoL P w K mg base (k + 4) cl f := by
  obtain ⟨fa, fd, dvs, F, hm, hbn⟩ := h
  have hcl' : ∀ as s d s', cl f as s = some (d, s') → as.length = ps.length ∧ runF Γ.cl I as s = some (d, s') := fun as s d s' e => by
    rw [hcl] at e
    exact runI_of e
  refine ⟨fa, fd, ps, k + 1, Nat.le_refl _, gl_ok F S hh hK hN hsc hb hi ht hc hv hs hn hI hcl' a hio hfr, hm, F.kp, hbn, fun as s d s' e => ?_⟩
  have hr := (hcl' _ _ _ _ e).2
  unfold runF at hr
  rw [hI] at hr
  cases e3 : ev Γ.cl (.lc j (.rng1 ie) (.cons ic .nil) iv) (as.map slOf ++ List.replicate (I.n - as.length) .no) s with
  | none =>
    unfold evSs evS at hr
    rw [e3] at hr
    cases hr
  | some r =>
    obtain ⟨d2, st3⟩ := r
    obtain ⟨_, _, ys, _, _, _, e4⟩ := ev_lc e3
    unfold evSs evS at hr
    rw [e3] at hr
    cases hr
    exact ⟨ys, e4⟩
end
end Ip

set_option Elab.async false
set_option linter.all false
set_option maxRecDepth 100000
set_option maxHeartbeats 4000000
/-! max, min, sorted over data; truth of lists; comprehensions with two names; lists lent to a new list's making. -/
namespace Ip
open PySem PySem.Spec PyProof.Rows L2
/-! ### max, min -/
theorem readsInts {h : Heap} : ∀ {ns : List Int} {its : List Value}, Vals (ns.map V.int) its → ∃ as, ReadsAll h its (ns.map PyData.int) as
  | [], _, .nil => ⟨[], .nil⟩
  | n :: ns, _, .cons r t => by
    obtain ⟨k, rfl⟩ := r
    obtain ⟨as, h1⟩ := readsInts (h := h) t
    exact ⟨[] ++ as, .cons (.int _ _) h1⟩
theorem alikeInts (ns : List Int) : PySem.W.AlikeAll (ns.map PyData.int) := by
  refine ⟨fun x hx y hy => ?_, fun x hx => ?_⟩
  · obtain ⟨a, _, rfl⟩ := List.mem_map.mp hx
    obtain ⟨b, _, rfl⟩ := List.mem_map.mp hy
    simp [PySem.W.alike]
  · obtain ⟨a, _, rfl⟩ := List.mem_map.mp hx
    intro e
    cases e
def rMaxDf (K : PySem.W.Frag) : List V → List V → Hp → VK → Prop := fun vs zs H Q => ∃ (a : Addr) (ns : List Int) (d m : Int), vs = [.ref a] ∧ zs = [.int d] ∧ SqL K H a (ns.map V.int) ∧ maxI ns (some d) = some m ∧ Q (.int m) H
theorem cr_maxDf {X : Cx} (hc : X.calm = true) (hu : X.A.units + 100 < cLine) : CallRK X (.builtin "max") [Str.ofString "default"] (rMaxDf X.K) := by
  intro pins s σ H vs zs us ws Q I r rz h
  obtain ⟨a, ns, d, m, rfl, rfl, hs, hm, q⟩ := h
  obtain ⟨its, rv, hl, hz⟩ := I.list hs
  rw [Vals.ref1 r]
  obtain ⟨w1, rfl, t, rfl⟩ := vals1 rz
  obtain ⟨as, ra⟩ := readsInts (h := s.heap) rv
  refine PySem.W.max_list_default (xs := ns.map .int) (as := as) (I.ok.hd hc) hl.isList (by simpa using ra) (alikeInts ns) (by rw [PySem.W.depth_ints]; omega) (fun e h' tk hk => ?_) (fun y ys i v h' tk bs e hv hr hk => ?_)
  · have e0 : ns = [] := by simpa using e
    subst e0
    cases hm
    exact ⟨.int _, H, I.kept hk, ⟨_, rfl⟩, q⟩
  · cases ns with
    | nil => cases e
    | cons n ns =>
      cases e
      rw [PySem.W.maxD_ints] at hr
      cases hm
      cases hr
      exact ⟨.int _, H, I.kept hk, ⟨_, rfl⟩, q⟩
theorem maxI_mem {n : Int} {ns : List Int} {m : Int} (h1 : m ∈ n :: ns) (h2 : ∀ y, y ∈ n :: ns → y ≤ m) : ns.foldl max n = m := by
  have ge : ∀ (ns : List Int) (n : Int), n ≤ ns.foldl max n ∧ (∀ y ∈ ns, y ≤ ns.foldl max n) ∧ (ns.foldl max n = n ∨ ns.foldl max n ∈ ns) := by
    intro ns
    induction ns with
    | nil => intro n; exact ⟨Int.le_refl _, by simp, .inl rfl⟩
    | cons a ns ih =>
      intro n
      obtain ⟨i1, i2, i3⟩ := ih (max n a)
      show n ≤ ns.foldl max (max n a) ∧ (∀ y ∈ a :: ns, y ≤ ns.foldl max (max n a)) ∧ (ns.foldl max (max n a) = n ∨ ns.foldl max (max n a) ∈ a :: ns)
      refine ⟨by omega, fun y hy => ?_, ?_⟩
      · rcases List.mem_cons.mp hy with e | hy
        · rw [e]; omega
        · exact i2 y hy
      · rcases i3 with e | e
        · rw [e]
          rcases Int.le_total n a with c | c
          · right
            rw [Int.max_eq_right c]
            exact List.mem_cons_self
          · left
            exact Int.max_eq_left c
        · exact .inr (List.mem_cons_of_mem _ e)
  obtain ⟨g1, g2, g3⟩ := ge ns n
  have le : ns.foldl max n ≤ m := by
    rcases g3 with e | e
    · rw [e]; exact h2 n List.mem_cons_self
    · exact h2 _ (List.mem_cons_of_mem _ e)
  have ge2 : m ≤ ns.foldl max n := by
    rcases List.mem_cons.mp h1 with e | e
    · rw [e]; exact g1
    · exact g2 m e
  omega
theorem ints_of {K : PySem.W.Frag} {B : Hp} : ∀ {ds : List D} {xs : List V} {ns : List Int}, intsD ds = some ns → RpA K B xs ds → xs = ns.map V.int
  | [], [], _, h, .nil => by
    cases h
    rfl
  | .int n :: ds, _ :: xs, _, h, .cons p r => by
    have h' : (intsD ds).map (fun ns => n :: ns) = some _ := h
    obtain ⟨zs, h1, rfl⟩ := Option.map_eq_some_iff.mp h'
    cases p
    rw [ints_of h1 r]
    rfl
section
variable {Γ : Gam} {e a b c : Expr} {ia ib ic i : IE} {pos p0 p1 : Pos}
theorem mx2_se (ha : SE Γ a ia) (hc : SE Γ b ib) (hh : Γ.hot = false := by rfl) (hb : Γ.bs.contains "max" = true := by rfl) (hg : GlS Γ.sc "max" := by rfl) (hs : ∀ env, starEach [a, b] env = (false, eval a env) :: starEach [b] env := by intro _; rfl) (hs2 : ∀ env, starEach [b] env = (false, eval b env) :: starEach [] env := by intro _; rfl)
    (hpl : ∀ env, (backTo pos (starEach [b] env)).any (·.1) = false := by intro _; rfl) : SE Γ (.Call (.Name "max" p0) [a, b] [] pos) (.mx2 ia ib) := fun X p o =>
  PE_weak (pe_callB (call_max2 (o.calm hh)) (o.gl hg) (o.bl _ (List.contains_iff_mem.mp hb)) (by decide +kernel) ((sa_cons ha (sa_cons hc sa_nil hs2) hs) X p o) (by decide) (by decide) (hs _) (hpl _)) fun σ H Q q => by
    obtain ⟨st, B, M, F, env, d, st', r, he, k⟩ := q
    unfold ev at he
    split at he
    · rename_i x st1 e1
      split at he
      · rename_i y st2 e2
        cases he
        refine ⟨st, B, M, F, env, [.int x, .int y], _, r, by unfold ea; rw [e1]; unfold ea; simp only [e2]; rfl, fun vs B1 H1 x1 r1 pv => ?_⟩
        match vs, pv with
        | [_, _], .cons (.int _) (.cons (.int _) .nil) => exact ⟨x, y, rfl, k _ B1 H1 x1 r1 (.int _)⟩
      · cases he
    · cases he
theorem mn2_se (ha : SE Γ a ia) (hc : SE Γ b ib) (hh : Γ.hot = false := by rfl) (hb : Γ.bs.contains "min" = true := by rfl) (hg : GlS Γ.sc "min" := by rfl) (hs : ∀ env, starEach [a, b] env = (false, eval a env) :: starEach [b] env := by intro _; rfl) (hs2 : ∀ env, starEach [b] env = (false, eval b env) :: starEach [] env := by intro _; rfl)
    (hpl : ∀ env, (backTo pos (starEach [b] env)).any (·.1) = false := by intro _; rfl) : SE Γ (.Call (.Name "min" p0) [a, b] [] pos) (.mn2 ia ib) := fun X p o =>
  PE_weak (pe_callB (call_min2 (o.calm hh)) (o.gl hg) (o.bl _ (List.contains_iff_mem.mp hb)) (by decide +kernel) ((sa_cons ha (sa_cons hc sa_nil hs2) hs) X p o) (by decide) (by decide) (hs _) (hpl _)) fun σ H Q q => by
    obtain ⟨st, B, M, F, env, d, st', r, he, k⟩ := q
    unfold ev at he
    split at he
    · rename_i x st1 e1
      split at he
      · rename_i y st2 e2
        cases he
        refine ⟨st, B, M, F, env, [.int x, .int y], _, r, by unfold ea; rw [e1]; unfold ea; simp only [e2]; rfl, fun vs B1 H1 x1 r1 pv => ?_⟩
        match vs, pv with
        | [_, _], .cons (.int _) (.cons (.int _) .nil) => exact ⟨x, y, rfl, k _ B1 H1 x1 r1 (.int _)⟩
      · cases he
    · cases he
theorem mxl_se (ha : SE Γ a ia) (hh : Γ.hot = false := by rfl) (hb : Γ.bs.contains "max" = true := by rfl) (hg : GlS Γ.sc "max" := by rfl) (hs : ∀ env, starEach [a] env = (false, eval a env) :: starEach [] env := by intro _; rfl) : SE Γ (.Call (.Name "max" p0) [a] [] pos) (.mxl ia none) := fun X p o =>
  PE_weak (pe_callB (cr_max (o.calm hh)) (o.gl hg) (o.bl _ (List.contains_iff_mem.mp hb)) (by decide +kernel) ((sa_cons ha sa_nil hs) X p o) (by decide) (by decide) (hs _) rfl) fun σ H Q q => by
    obtain ⟨st, B, M, F, env, d, st', r, he, k⟩ := q
    unfold ev at he
    split at he
    · rename_i xs st1 e1
      split at he
      · rename_i ns e2
        obtain ⟨m, e3, e4⟩ := Option.map_eq_some_iff.mp he
        cases e4
        refine ⟨st, B, M, F, env, [.list xs], _, r, by unfold ea; rw [e1]; rfl, fun vs B1 H1 x1 r1 pv => ?_⟩
        match vs, pv with
        | [_], .cons (@Rp.lst _ _ l zs _ hx rx) .nil =>
          have ez := ints_of e2 rx
          subst ez
          cases ns with
          | nil => cases e3
          | cons n ns =>
            cases e3
            refine ⟨l, n :: ns, rfl, by rw [o.K]; exact Or.inl (Or.inl (r1.bs.b _ _ hx)), by simp, fun m h1 h2 => ?_⟩
            have em := maxI_mem h1 h2
            rw [← em]
            exact k _ B1 H1 x1 r1 (.int _)
      · cases he
    · cases he
theorem mxd_se {n : Int} {ed : Expr} {kp : Pos} (ha : SE Γ a ia) (hd : ∀ X p, Okx Γ X p → PE X ed (tC (.int n))) (hh : Γ.hot = false := by rfl) (hb : Γ.bs.contains "max" = true := by rfl) (hg : GlS Γ.sc "max" := by rfl) (hs : ∀ env, starEach [a] env = (false, eval a env) :: starEach [] env := by intro _; rfl)
    (he0 : ∀ env, backTo pos (starEach [a] env) = (false, eval a env) :: backTo pos (starEach [] env) := by intro _; rfl) (hpl : ∀ env, (backTo pos (starEach [a] env)).any (·.1) = false := by intro _; rfl)
    (hall : ∀ env, (backToKw pos (keywordEach [⟨some "default", ed, kp⟩] env)).all (·.1.isSome) = true := by intro _; rfl) (hno : ∀ env, (backToKw pos (keywordEach [⟨some "default", ed, kp⟩] env)).any (·.1.isNone) = false := by intro _; rfl)
    (hks : ∀ env, (backToKw pos (keywordEach [⟨some "default", ed, kp⟩] env)).filterMap (·.1) = [Str.ofString "default"] := by intro _; rfl) : SE Γ (.Call (.Name "max" p0) [a] [⟨some "default", ed, kp⟩] pos) (.mxl ia (some n)) := fun X p o =>
  PE_weak (pe_callBK (cr_maxDf (o.calm hh) o.units) (o.gl hg) (o.bl _ (List.contains_iff_mem.mp hb)) (by decide +kernel) ((sa_cons ha sa_nil hs) X p o) (pk_cons (hd X p o) pk_nil) (by decide) (by decide) (he0 _) (hpl _) (hall _) (hno _) (hks _)) fun σ H Q q => by
    obtain ⟨st, B, M, F, env, d, st', r, he, k⟩ := q
    unfold ev at he
    split at he
    · rename_i xs st1 e1
      split at he
      · rename_i ns e2
        obtain ⟨m, e3, e4⟩ := Option.map_eq_some_iff.mp he
        cases e4
        refine ⟨st, B, M, F, env, [.list xs], _, r, by unfold ea; rw [e1]; rfl, fun vs B1 H1 x1 r1 pv => ?_⟩
        match vs, pv with
        | [_], .cons (@Rp.lst _ _ l zs _ hx rx) .nil =>
          have ez := ints_of e2 rx
          subst ez
          exact ⟨l, ns, n, m, rfl, rfl, by rw [o.K]; exact Or.inl (Or.inl (r1.bs.b _ _ hx)), e3, k _ B1 H1 x1 r1 (.int _)⟩
      · cases he
    · cases he
end
end Ip

set_option Elab.async false
set_option linter.all false
set_option maxRecDepth 100000
set_option maxHeartbeats 4000000
namespace Ip
open PySem PySem.Spec PyProof.Rows L2
/-! ### sorted over data -/
theorem each_two {X : Cx} {pins : List (Addr × Obj)} {σ : L2.St} {H : Hp} {s : Shared} (I : Inv X pins σ H s) : ∀ {ds : List D} {xs : List V} {its : List Value}, DpAll X.K H xs ds → Vals xs its →
    PySem.W.EachIs (fun v (b : V × D) => RelV b.1 v) its (xs.zip ds) ∧ PySem.W.EachIs (fun v (b : V × D) => ∃ as, Reads s.heap v b.2 as) its (xs.zip ds)
  | [], _, _, .nil, .nil => ⟨.nil, .nil⟩
  | d :: ds, _, _, .cons h t, .cons r rr => by
    obtain ⟨i1, i2⟩ := each_two I t rr
    exact ⟨.cons r i1, .cons (Dp.reads I d _ _ h r) i2⟩
theorem each_vals : ∀ {out : List Value} {l : List (V × D)}, PySem.W.EachIs (fun v (b : V × D) => RelV b.1 v) out l → Vals (l.map Prod.fst) out
  | _, _, .nil => .nil
  | _, _, .cons r t => .cons r (each_vals t)
theorem dpa_len {K : PySem.W.Frag} {H : Hp} : ∀ {ds : List D} {xs : List V}, DpAll K H xs ds → xs.length = ds.length
  | _, _, .nil => rfl
  | _, _, .cons _ t => congrArg Nat.succ (dpa_len t)
theorem sortOk_of {ds : List D} (h : sortOk ds = true) : PySem.W.AllAlike ds ∧ PySem.W.Sortable ds ∧ ds.length ≤ most ∧ ∀ d ∈ ds, d.depth ≤ 50 := by
  unfold sortOk at h
  simp only [Bool.and_eq_true, Bool.or_eq_true, List.all_eq_true, decide_eq_true_eq] at h
  obtain ⟨⟨⟨h1, h2⟩, h3⟩, h4⟩ := h
  refine ⟨h1, ?_, h3, h4⟩
  rcases h2 with h2 | h2
  · left
    intro d hd
    have q := h2 d hd
    cases d with
    | tuple xs =>
      cases xs with
      | nil => cases q
      | cons x r => exact ⟨x, r, rfl⟩
    | _ => cases q
  · right
    intro d hd
    have q := h2 d hd
    cases d with
    | none => cases q
    | tuple xs => cases q
    | _ => exact ⟨(fun e => nomatch e), (fun xs e => nomatch e)⟩
def rSrt (K : PySem.W.Frag) : List V → Hp → VK → Prop := fun vs H Q => ∃ (a : Addr) (xs : List V) (ds : List D), vs = [.ref a] ∧ SqL K H a xs ∧ DpAll K H xs ds ∧ sortOk ds = true ∧
  ∀ (l : List (V × D)) (q : Addr), l.Perm (xs.zip ds) → l.map Prod.snd = srtA ds → H q = none → Q (.ref q) (upd H q (.lst (l.map Prod.fst)))
theorem cr_srt {X : Cx} (hu : X.A.units + 100 < cLine) : CallR X (.builtin "sorted") (rSrt X.K) := by
  intro pins s σ H vs us Q I r h
  obtain ⟨a, xs, ds, rfl, hs, hd, hok, q⟩ := h
  obtain ⟨its, rv, hl, hz⟩ := I.list hs
  rw [Vals.ref1 r]
  obtain ⟨e1, e2⟩ := each_two I hd rv
  obtain ⟨o1, o2, o3, o4⟩ := sortOk_of hok
  have hm : (xs.zip ds).map Prod.snd = ds := List.map_snd_zip (by rw [dpa_len hd]; exact Nat.le_refl _)
  have hlen : (xs.zip ds).length = ds.length := by rw [← hm, List.length_map, hm]
  refine PySem.W.sorted_data (enc := Prod.snd) hl.isList e1 e2 (by rw [hm]; exact o1) (by rw [hm]; exact o2) (by rw [hlen]; exact most_line o3) (fun b hb => ?_) fun out hout eo => ?_
  · have := o4 b.2 (by rw [← hm]; exact List.mem_map.mpr ⟨b, hb, rfl⟩)
    omega
  · have hp : ((xs.zip ds).mergeSort (PySem.W.dataLe false Prod.snd)).Perm (xs.zip ds) := List.mergeSort_perm _ _
    have hsnd : ((xs.zip ds).mergeSort (PySem.W.dataLe false Prod.snd)).map Prod.snd = srtA ds := by
      unfold srtA
      have e3 := List.map_mergeSort (f := Prod.snd) (r := PySem.W.dataLe false (Prod.snd : V × D → D)) (s := PySem.W.dataLe false id) (l := xs.zip ds) (fun _ _ _ _ => rfl)
      rw [e3, hm]
    obtain ⟨ep, he'⟩ := PyProof.Rows.sortedAll_at s.heap its out.toArray
    have hl2 : (((xs.zip ds).mergeSort (PySem.W.dataLe false Prod.snd)).map Prod.fst).length ≤ sizeLine := by rw [List.length_map, hp.length_eq, hlen]; exact most_line o3
    exact ⟨.ref _, upd H (s.heap.objs.size + 1) (.lst (((xs.zip ds).mergeSort (PySem.W.dataLe false Prod.snd)).map Prod.fst)), I.laid (t' := s.toks) (fun _ _ => PyProof.Rows.sortedAll_old) (Nat.le_succ _) ⟨hl2, out, ep, each_vals eo, he'⟩, rfl, q _ _ hp hsnd (I.hok.fresh (Nat.le_succ _))⟩
theorem rpa_zip {K : PySem.W.Frag} {B : Hp} : ∀ {xs : List V} {ds : List D}, RpA K B xs ds → ∀ b ∈ xs.zip ds, Rp K B b.1 b.2
  | _, _, .nil, b, h => by simp at h
  | _, _, .cons p r, b, h => by
    rcases List.mem_cons.mp h with e | h
    · rw [e]; exact p
    · exact rpa_zip r b h
theorem rpa_unzip {K : PySem.W.Frag} {B : Hp} : ∀ {l : List (V × D)}, (∀ b ∈ l, Rp K B b.1 b.2) → RpA K B (l.map Prod.fst) (l.map Prod.snd)
  | [], _ => .nil
  | b :: l, h => .cons (h b List.mem_cons_self) (rpa_unzip fun c hc => h c (List.mem_cons_of_mem _ hc))
theorem ev_srt {cl : Cl} {ia : IE} {env : List Sl} {st : Pl} {d : D} {st' : Pl} (he : ev cl (.srt ia) env st = some (d, st')) : ∃ xs, ev cl ia env st = some (.list xs, st') ∧ sortOk xs = true ∧ d = .list (srtA xs) := by
  unfold ev at he
  split at he
  · rename_i xs st1 e1
    obtain ⟨h1, h2⟩ := ite_some he
    cases h2
    exact ⟨xs, e1, h1, rfl⟩
  · cases he
section
variable {Γ : Gam} {e a b c : Expr} {ia ib ic i : IE} {pos p0 p1 : Pos}
theorem srt_sf (ha : SE Γ a ia) (hb : Γ.bs.contains "sorted" = true := by rfl) (hg : GlS Γ.sc "sorted" := by rfl) (hs : ∀ env, starEach [a] env = (false, eval a env) :: starEach [] env := by intro _; rfl) : SF Γ (.Call (.Name "sorted" p0) [a] [] pos) (.srt ia) := fun X p o =>
  PE_weak (pe_callB (cr_srt o.units) (o.gl hg) (o.bl _ (List.contains_iff_mem.mp hb)) (by decide +kernel) ((sa_cons ha sa_nil hs) X p o) (by decide) (by decide) (hs _) rfl) fun σ H Q q => by
    obtain ⟨st, B, M, F, env, ds, st', r, he, k⟩ := q
    obtain ⟨xs, e1, h1, e2⟩ := ev_srt he
    cases e2
    refine ⟨st, B, M, F, env, [.list xs], _, r, by unfold ea; rw [e1]; rfl, fun vs B1 H1 x1 r1 pv => ?_⟩
    match vs, pv with
    | [_], .cons (@Rp.lst _ _ l zs _ hx rx) .nil =>
      refine ⟨l, zs, xs, rfl, by rw [o.K]; exact Or.inl (Or.inl (r1.bs.b _ _ hx)), by rw [o.K]; exact rx.dp r1.bs.b, h1, fun m q hp hm hq => ?_⟩
      obtain ⟨f1, f2, f3, f4⟩ := r1.freshM hq
      refine k q _ B1 _ x1 f1 f2 f3 f4 upd_same ?_ (r1.more hq)
      rw [← hm]
      exact rpa_unzip fun b hb => rpa_zip rx b (hp.mem_iff.mp hb)
theorem srt_se (ha : SE Γ a ia) (hb : Γ.bs.contains "sorted" = true := by rfl) (hg : GlS Γ.sc "sorted" := by rfl) (hs : ∀ env, starEach [a] env = (false, eval a env) :: starEach [] env := by intro _; rfl) : SE Γ (.Call (.Name "sorted" p0) [a] [] pos) (.srt ia) := (srt_sf ha hb hg hs).se fun _ _ _ _ _ he => by
  obtain ⟨xs, _, _, e⟩ := ev_srt he
  exact ⟨_, e⟩
/-! ### truth -/
theorem rpa_emp {K : PySem.W.Frag} {B : Hp} {xs : List V} {ds : List D} (r : RpA K B xs ds) : (!xs.isEmpty) = !ds.isEmpty := by cases r <;> rfl
theorem tru_st (ha : SE Γ a ia) (hs : ∀ env whole, isTrue a env whole = (do let v ← whole; standAt a.pos; holding [v] (truthy v)) := by intro _ _; rfl) : ST Γ a (.tru ia) := fun X p o =>
  PT_weak (pt_truth (ha X p o) (fun w => hs X.env w)) fun σ H Q q => by
    obtain ⟨st, B, M, F, env, b, st', r, he, k⟩ := q
    unfold ev at he
    split at he
    · rename_i x st1 e1
      obtain ⟨t, e2, e3⟩ := Option.map_eq_some_iff.mp he
      cases e3
      refine ⟨st, B, M, F, env, x, _, r, e1, fun v B1 H1 x1 r1 pv => ?_⟩
      rw [o.K]
      cases pv with
      | int n =>
        cases e2
        exact ⟨_, rfl, k B1 H1 x1 r1⟩
      | @lst l zs ds hx rx =>
        cases e2
        exact ⟨_, .inl ⟨zs, Or.inl (Or.inl (r1.bs.b _ _ hx)), (rpa_emp rx).symm⟩, k B1 H1 x1 r1⟩
      | @tup l zs ds hx rx =>
        cases e2
        exact ⟨_, .inr (.inl ⟨zs, sqt_mono r1.bs.b hx, (rpa_emp rx).symm⟩), k B1 H1 x1 r1⟩
      | _ => cases e2
    · cases he
end
/-! ### a comprehension with two names -/
theorem wipe_get (σ : L2.St) : ∀ (js : List Nat) (i : Nat), (wipe σ js)[i]? = if i ∈ js then σ[i]?.map (fun _ => none) else σ[i]?
  | [], i => by simp [wipe]
  | j :: js, i => by
    unfold wipe
    by_cases e : j = i
    · subst e
      rw [if_pos List.mem_cons_self, List.getElem?_set]
      by_cases hl : j < σ.length
      · rw [if_pos rfl, if_pos (by rw [wipe_length]; exact hl), List.getElem?_eq_getElem hl]
        rfl
      · rw [if_pos rfl, if_neg (by rw [wipe_length]; exact hl), List.getElem?_eq_none (Nat.le_of_not_lt hl)]
        rfl
    · rw [List.getElem?_set_ne e, wipe_get σ js i]
      have : (i ∈ j :: js) = (i ∈ js) := by
        apply propext
        constructor
        · intro h
          rcases List.mem_cons.mp h with h | h
          · exact absurd h.symm e
          · exact h
        · exact List.mem_cons_of_mem _
      simp only [this]
theorem wipe_agree {σ τ : L2.St} {js : List Nat} (hl : τ.length = σ.length) (h : ∀ i, i ∉ js → τ[i]? = σ[i]?) : wipe τ js = wipe σ js := by
  apply List.ext_getElem?
  intro i
  rw [wipe_get, wipe_get]
  by_cases c : i ∈ js
  · rw [if_pos c, if_pos c]
    by_cases hi : i < σ.length
    · rw [List.getElem?_eq_getElem hi, List.getElem?_eq_getElem (by rw [hl]; exact hi)]
      rfl
    · rw [List.getElem?_eq_none (Nat.le_of_not_lt hi), List.getElem?_eq_none (by rw [hl]; exact Nat.le_of_not_lt hi)]
  · rw [if_neg c, if_neg c, h i c]
def setV : List Nat → List V → L2.St → L2.St
  | j :: js, v :: vs, σ => setV js vs (σ.set j (some v))
  | _, _, σ => σ
theorem setV_len : ∀ (js : List Nat) (vs : List V) (σ : L2.St), (setV js vs σ).length = σ.length
  | j :: js, v :: vs, σ => by
    show (setV js vs (σ.set j (some v))).length = _
    rw [setV_len, List.length_set]
  | [], _, _ => rfl
  | _ :: _, [], _ => rfl
theorem setV_get : ∀ (js : List Nat) (vs : List V) (σ : L2.St) (i : Nat), i ∉ js → (setV js vs σ)[i]? = σ[i]?
  | j :: js, v :: vs, σ, i, h => by
    show (setV js vs (σ.set j (some v)))[i]? = _
    rw [setV_get js vs _ i (fun q => h (List.mem_cons_of_mem _ q)), List.getElem?_set_ne (fun e => h (by rw [e]; exact List.mem_cons_self))]
  | [], _, _, _, _ => rfl
  | _ :: _, [], _, _, _ => rfl
theorem gMany_go {H : Hp} : ∀ {js : List Nat} {vs : List V} {σ : L2.St} {Q : L2.St → Hp → Prop}, js.length = vs.length → Q (setV js vs σ) H → gMany js vs σ H Q
  | [], [], σ, Q, _, k => ⟨rfl, k⟩
  | j :: js, v :: vs, σ, Q, h, k => ⟨v, vs, rfl, gMany_go (Nat.succ.inj h) k⟩
def noE : List Nat → List Sl → List Sl
  | [], env => env
  | j :: js, env => (noE js env).set j .no
theorem noE_len (env : List Sl) : ∀ js : List Nat, (noE js env).length = env.length
  | [] => rfl
  | j :: js => by unfold noE; rw [List.length_set, noE_len env js]
theorem noE_get (env : List Sl) : ∀ (js : List Nat) (i : Nat), i ∉ js → (noE js env)[i]? = env[i]?
  | [], _, _ => rfl
  | j :: js, i, h => by
    unfold noE
    rw [List.getElem?_set_ne (fun e => h (by rw [e]; exact List.mem_cons_self)), noE_get env js i (fun q => h (List.mem_cons_of_mem _ q))]
theorem setMany_agree : ∀ {js : List Nat} {ds : List D} {e1 e2 : List Sl}, e1.length = e2.length → (∀ i, i ∉ js → e1[i]? = e2[i]?) → setMany js ds e1 = setMany js ds e2
  | [], [], e1, e2, _, h => by
    show some e1 = some e2
    exact congrArg some (List.ext_getElem? fun i => h i (by simp))
  | j :: js, d :: ds, e1, e2, hl, h => by
    show setMany js ds (e1.set j (.im d)) = setMany js ds (e2.set j (.im d))
    refine setMany_agree (by rw [List.length_set, List.length_set, hl]) fun i hi => ?_
    rw [List.getElem?_set, List.getElem?_set]
    by_cases c : j = i
    · subst c
      rw [if_pos rfl, if_pos rfl, hl]
    · rw [if_neg c, if_neg c]
      exact h i (fun q => by
        rcases List.mem_cons.mp q with z | z
        · exact c z.symm
        · exact hi z)
  | [], _ :: _, _, _, _, _ => rfl
  | _ :: _, [], _, _, _, _ => rfl
section
variable {K : PySem.W.Frag} {p : Pa} {st : Pl} {B M F : Hp} {env : List Sl} {σ : L2.St} {H : Hp}
theorem Rel.wipe1 (r : Rel K p st B M F env σ H) (j : Nat) : Rel K p st B M F (env.set j .no) (σ.set j none) H := ⟨r.bs, r.m, r.md, {
  len := by rw [List.length_set, List.length_set]; exact r.en.len
  at_ := fun i s hi => by
    by_cases e : j = i
    · subst e
      have hl : j < env.length := by
        have := (List.getElem?_eq_some_iff.mp hi).1
        rwa [List.length_set] at this
      rw [List.getElem?_set_self hl] at hi
      cases hi
      exact ⟨none, List.getElem?_set_self (by rw [← r.en.len]; exact hl), True.intro⟩
    · rw [List.getElem?_set_ne e] at hi
      obtain ⟨w, h1, h2⟩ := r.en.at_ i s hi
      exact ⟨w, by rw [List.getElem?_set_ne e]; exact h1, h2⟩
  ap := fun i k ds es b hi hk si sk => by
    have ne : ∀ {i : Nat} {ds : List D}, (env.set j .no)[i]? = some (.ow ds) → j ≠ i := fun {i ds} hi e => by
      subst e
      have hl : j < env.length := by
        have := (List.getElem?_eq_some_iff.mp hi).1
        rwa [List.length_set] at this
      rw [List.getElem?_set_self hl] at hi
      cases hi
    have n1 := ne hi
    have n2 := ne hk
    rw [List.getElem?_set_ne n1] at hi si
    rw [List.getElem?_set_ne n2] at hk sk
    exact r.en.ap i k ds es b hi hk si sk
  io := fun i b ds hp hi => by
    by_cases e : j = i
    · subst e
      have hl : j < env.length := by
        have := (List.getElem?_eq_some_iff.mp hi).1
        rwa [List.length_set] at this
      rw [List.getElem?_set_self hl] at hi
      cases hi
    · rw [List.getElem?_set_ne e] at hi ⊢
      exact r.en.io i b ds hp hi }⟩
theorem Rel.wipe (r : Rel K p st B M F env σ H) : ∀ js : List Nat, Rel K p st B M F (noE js env) (wipe σ js) H
  | [] => r
  | j :: js => (Rel.wipe r js).wipe1 j
theorem Rel.setV : ∀ {js : List Nat} {vs : List V} {ds : List D} {env env' : List Sl} {σ : L2.St}, Rel K p st B M F env σ H → RpA K B vs ds → setMany js ds env = some env' → Rel K p st B M F env' (setV js vs σ) H
  | [], _, [], env, env', σ, r, .nil, he => by
    cases he
    exact r
  | j :: js, _, d :: ds, env, env', σ, r, .cons pv rv, he => Rel.setV (js := js) (ds := ds) (r.set pv j) rv (show setMany js ds (env.set j (.im d)) = some env' from he)
  | [], _, _ :: _, _, _, _, _, _, he => by cases he
  | _ :: _, _, [], _, _, _, _, _, he => by cases he
end
end Ip

set_option Elab.async false
set_option linter.all false
set_option maxRecDepth 100000
set_option maxHeartbeats 4000000
namespace Ip
open PySem L2
def lcFM (cl : Cl) (js : List Nat) (cs : IEs) (e : IE) (env : List Sl) : D → Pl → Option (Option D × Pl) := fun d st => match itD d with
        | some zs => (match setMany js zs env with
          | some env1 => (match et cl cs env1 st with
            | some (true, st2) => (match ev cl e env1 st2 with
              | some (y, st3) => some (some y, st3)
              | none => none)
            | some (false, st2) => some (none, st2)
            | none => none)
          | none => none)
        | none => none
theorem ev_lcm {cl : Cl} {js : List Nat} {it : IT} {cs : IEs} {e : IE} {env : List Sl} {st : Pl} {d : D} {st4 : Pl} (h : ev cl (.lcm js it cs e) env st = some (d, st4)) :
    ∃ ds st1 ys, ei cl it env st = some (ds, st1) ∧ ds.length ≤ most ∧ lcG (lcFM cl js cs e env) ds st1 = some (ys, st4) ∧ d = .list ys := by
  unfold ev at h
  split at h
  · rename_i ds st1 e1
    obtain ⟨hl, h⟩ : ds.length ≤ most ∧ _ := by
      by_cases hl : ds.length ≤ most
      · rw [if_pos hl] at h
        exact ⟨hl, h⟩
      · rw [if_neg hl] at h
        cases h
    split at h
    · rename_i ys st5 e2
      cases h
      exact ⟨ds, st1, ys, e1, hl, e2, rfl⟩
    · cases h
  · cases h
def gBoth (K : PySem.W.Frag) (js : List Nat) : TG := fun v σ H Q => gTup K js.length (gMany js) v σ H Q ∨ gUnl K js.length (gMany js) v σ H Q
theorem gBoth_go {K : PySem.W.Frag} {B H : Hp} {v : V} {d : D} {zs : List D} {js : List Nat} {σ : L2.St} {Q : L2.St → Hp → Prop} (pv : Rp K B v d) (x : Ex B H) (h : itD d = some zs) (hl : zs.length = js.length) (k : ∀ vs, RpA K B vs zs → Q (setV js vs σ) H) : gBoth K js v σ H Q := by
  cases pv with
  | @lst a xs _ hx rx =>
    cases h
    exact .inr ⟨a, xs, rfl, Or.inl (Or.inl (x _ _ hx)), by rw [rx.length, hl], gMany_go (by rw [rx.length, hl]) (k xs rx)⟩
  | @tup a xs _ hx rx =>
    cases h
    exact .inl ⟨a, xs, rfl, sqt_mono x hx, by rw [rx.length, hl], gMany_go (by rw [rx.length, hl]) (k xs rx)⟩
  | _ => cases h
theorem lcm_read {K : PySem.W.Frag} {cl : Cl} {p : Pa} {js : List Nat} {it : IT} {cs : IEs} {ie : IE} {σ : L2.St} {H : Hp} {Q : VK} (q : Tf K cl p (.lcm js it cs ie) σ H Q) : tLc (Ti K cl p it) (gBoth K js) (Ts K cl p cs) (Tx K cl p ie) js σ H Q := by
  obtain ⟨st, B, M, F, env, ds, st', r, he, k⟩ := q
  obtain ⟨dz, st1, ys, e1, hl, e2, e3⟩ := ev_lcm he
  cases e3
  refine walk_lcG r e1 (fun B1 Dl n B' H' => Ex B1 B' ∧ Ex B' H' ∧ Ex B B' ∧ ∃ sti acc zs rest, Rel K p sti B' M F env σ H' ∧ H' Dl = some (.lst acc) ∧ RpA K B' acc zs ∧ Fr B' M F p Dl ∧ zs.length ≤ n ∧ lcG (lcFM cl js cs ie env) (dz.drop n) sti = some (rest, st') ∧ zs ++ rest = ds)
    (fun B1 H1 Dl x1 r1 hD => ?_) (fun B1 Dl n B' H' q => ⟨q.1, q.2.1⟩) (fun B1 Dl n B' H' q o z hq => lcP_new (R := fun zs sti rest => lcG (lcFM cl js cs ie env) (dz.drop n) sti = some (rest, st') ∧ zs ++ rest = ds) z hq) (fun B1 Dl n d v B' H' x1 hd pv q => ?_) (fun B1 Dl B' H' x1 q => ?_)
  · have f := r1.fr hD
    exact ⟨Ex.refl B1, (r1.put f).bs.b, x1, st1, [], [], ds, r1.put f, upd_same, .nil, f, Nat.le_refl _, e2, rfl⟩
  · obtain ⟨x2, x3, x4, sti, acc, zs, rest, r2, hacc, racc, f, hz, e4, e5⟩ := q
    have hn : n < dz.length := (List.getElem?_eq_some_iff.mp hd).1
    have hdr : dz.drop n = d :: dz.drop (n + 1) := (List.drop_eq_getElem_cons hn).trans (by rw [(List.getElem?_eq_some_iff.mp hd).2])
    rw [hdr] at e4
    have fin : ∀ z1, lcFM cl js cs ie env d sti = some z1 → ∃ ws env1, itD d = some ws ∧ setMany js ws env = some env1 ∧ (match et cl cs env1 sti with
            | some (true, st2) => (match ev cl ie env1 st2 with
              | some (y, st3) => some (some y, st3)
              | none => none)
            | some (false, st2) => some (none, st2)
            | none => none) = some z1 := by
      intro z1 hz1
      unfold lcFM at hz1
      split at hz1
      · rename_i ws e6
        split at hz1
        · rename_i env1 e7
          exact ⟨ws, env1, e6, e7, hz1⟩
        · cases hz1
      · cases hz1
    have key : ∀ ws env1, itD d = some ws → setMany js ws env = some env1 → ∀ (b : Bool) (st2 : Pl), et cl cs env1 sti = some (b, st2) → (b = false → lcG (lcFM cl js cs ie env) (dz.drop (n + 1)) st2 = some (rest, st')) →
        (b = true → ∃ y st3 zs', ev cl ie env1 st2 = some (y, st3) ∧ lcG (lcFM cl js cs ie env) (dz.drop (n + 1)) st3 = some (zs', st') ∧ rest = y :: zs') → gBoth K js v (wipe σ js) H' fun σ2 H2 => wipe σ2 js = wipe σ js ∧ Ts K cl p cs σ2 H2 fun b H3 => if b = true then Tx K cl p ie σ2 H3 fun y H4 => ∃ acc, H4 Dl = some (.lst acc) ∧ acc.length < sizeLine ∧ ∃ B2, (Ex B1 B2 ∧ Ex B2 (upd H4 Dl (.lst (acc ++ [y]))) ∧ Ex B B2 ∧ ∃ sti acc_1 zs rest, Rel K p sti B2 M F env σ (upd H4 Dl (.lst (acc ++ [y]))) ∧ upd H4 Dl (.lst (acc ++ [y])) Dl = some (.lst acc_1) ∧ RpA K B2 acc_1 zs ∧ Fr B2 M F p Dl ∧ zs.length ≤ n + 1 ∧ lcG (lcFM cl js cs ie env) (dz.drop (n + 1)) sti = some (rest, st') ∧ zs ++ rest = ds) else ∃ B2, (Ex B1 B2 ∧ Ex B2 H3 ∧ Ex B B2 ∧ ∃ sti acc zs rest, Rel K p sti B2 M F env σ H3 ∧ H3 Dl = some (.lst acc) ∧ RpA K B2 acc zs ∧ Fr B2 M F p Dl ∧ zs.length ≤ n + 1 ∧ lcG (lcFM cl js cs ie env) (dz.drop (n + 1)) sti = some (rest, st') ∧ zs ++ rest = ds) := by
      intro ws env1 h1 h2 b st2 e6 h3 h4
      have hws := setMany_len h2
      refine gBoth_go pv x3 h1 hws fun vs rv => ⟨?_, ?_⟩
      · refine wipe_agree (by rw [setV_len, wipe_length]) fun i hi => ?_
        rw [setV_get _ _ _ _ hi, wipe_get, if_neg hi]
      · have h5 : setMany js ws (noE js env) = some env1 := by
          rw [← h2]
          exact setMany_agree (noE_len env js) fun i hi => noE_get env js i hi
        have r3 := ((r2.take f hacc).wipe js).setV rv h5
        refine ⟨sti, B', upd M Dl (.lst acc), F, env1, b, st2, r3, e6, fun B3 H3 x5 r4 => ?_⟩
        cases b with
        | false =>
          refine iteF ⟨B3, x2.trans x5, r4.bs.b, x4.trans x5, st2, acc, zs, rest, r2.rest f.m x5 r4, (Rel.restFr f r4).2, racc.mono x5, (Rel.restFr f r4).1, by omega, h3 rfl, e5⟩
        | true =>
          obtain ⟨y, st3, zs', e7, e8, e9⟩ := h4 rfl
          refine iteT ⟨st2, B3, upd M Dl (.lst acc), F, env1, y, st3, r4, e7, fun w B4 H4 x6 r5 pw => ?_⟩
          have f4 := Rel.restFr f r5
          have r6 := (r2.rest f.m (x5.trans x6) r5).put (o := .lst (acc ++ [w])) f4.1
          exact ⟨acc, f4.2, most_lt (by rw [racc.length]; omega), B4, (x2.trans x5).trans x6, r6.bs.b, (x4.trans x5).trans x6, st3, acc ++ [w], zs ++ [y], zs', r6, upd_same, (racc.mono (x5.trans x6)).append (.one pw), f4.1, by rw [List.length_append]; show zs.length + 1 ≤ n + 1; omega, e8, by rw [List.append_assoc, ← e5, e9]; rfl⟩
    rcases lcG_cons e4 with ⟨st3, e6, e7⟩ | ⟨y, st3, zs', e6, e7, e8⟩
    · obtain ⟨ws, env1, h1, h2, h3⟩ := fin _ e6
      split at h3
      · split at h3 <;> cases h3
      · rename_i st2 e9
        cases h3
        exact key ws env1 h1 h2 false _ e9 (fun _ => e7) (fun z => nomatch z)
      · cases h3
    · obtain ⟨ws, env1, h1, h2, h3⟩ := fin _ e6
      split at h3
      · rename_i st2 e9
        split at h3
        · rename_i y2 st5 e10
          cases h3
          exact key ws env1 h1 h2 true _ e9 (fun z => nomatch z) (fun _ => ⟨_, _, _, e10, e7, e8⟩)
        · cases h3
      · cases h3
      · cases h3
  · obtain ⟨x2, x3, x4, sti, acc, zs, rest, r2, hacc, racc, f, hz, e4, e5⟩ := q
    rw [List.drop_length] at e4
    unfold lcG at e4
    cases e4
    rw [List.append_nil] at e5
    subst e5
    exact k Dl acc B' H' x4 f.b f.m f.f f.p hacc racc r2
section
variable {Γ : Gam} {e : Expr} {i : IE} {pos p0 p1 : Pos} {x : Str}
theorem two_pg {X : Cx} {js : List Nat} {x1 x2 : Str} {px1 px2 pt : Pos} {kk : Nat} {K : PySem.W.Frag} {j1 j2 : Nat} (hc : X.calm = true) (hK : X.K = K) (h1 : PG X (.Name x1 px1) (gName j1)) (h2 : PG X (.Name x2 px2) (gName j2)) :
    PG X (.Tuple [.Name x1 px1, .Name x2 px2] kk pt) (gBoth K [j1, j2]) := by
  subst hK
  exact PG_or (pg_tup (n := 2) hc (pgs_cons h1 (pgs_cons h2 pgs_nil))) (pg_unl (n := 2) hc (pgs_cons h1 (pgs_cons h2 pgs_nil)))
theorem lcm_sf {elt iter : Expr} {ifs : List Expr} {scope : Scope} {x1 x2 : Str} {px1 px2 pt : Pos} {kk : Nat} {it : IT} {cs : IEs} {ie : IE} (j1 j2 : Nat) (hi : SIg Γ (.Tuple [.Name x1 px1, .Name x2 px2] kk pt) iter it) (hc : STs (Γ.blk scope) ifs cs) (he : SE (Γ.blk scope) elt ie) (hh : Γ.hot = false := by rfl)
    (hb : blkC Γ.N Γ.sc scope [(x1, j1), (x2, j2)] = true := by rfl) (h1 : Γ.N[j1]? = some x1 := by rfl) (h2 : Γ.N[j2]? = some x2 := by rfl) (l1 : (relS scope Γ.sc).names.lookup x1 = some .local := by rfl) (l2 : (relS scope Γ.sc).names.lookup x2 = some .local := by rfl)
    (hs : ∀ env y, foldedSetIterable iter env y = pure y := by intro _ _; rfl) : SF Γ (.ListComp elt [⟨.Tuple [.Name x1 px1, .Name x2 px2] kk pt, iter, ifs, 0⟩] scope pos) (.lcm [j1, j2] it cs ie) := fun X p o => by
  refine PE_weak (pe_lc (own := [(x1, j1), (x2, j2)]) (g := gBoth Γ.K [j1, j2]) (tt := Ts Γ.K Γ.cl p cs) (te := Tx Γ.K Γ.cl p ie) (o.calm hh) (by rw [o.N]; exact o.nd) (hi X p o) (blkOk_by (by rw [o.N, o.sc]; exact hb))
    (fun s H C cl fp => ?_) (fun s H C cl fp => hc _ p (o.blk hh scope s H C cl fp)) (fun s H C cl fp => he _ p (o.blk hh scope s H C cl fp)) (hs _)) fun σ H Q q => lcm_read q
  have ob := o.blk hh scope s H C cl fp
  exact two_pg (js := []) (o.calm hh) o.K (pg_name (show X.N.Nodup by rw [o.N]; exact o.nd) (show X.N[j1]? = some x1 by rw [o.N]; exact h1) (show Loc _ x1 from .inl (by rw [ob.sc]; exact l1)) (.inr (by rw [ob.sc]; exact l1))) (pg_name (show X.N.Nodup by rw [o.N]; exact o.nd) (show X.N[j2]? = some x2 by rw [o.N]; exact h2) (show Loc _ x2 from .inl (by rw [ob.sc]; exact l2)) (.inr (by rw [ob.sc]; exact l2)))
theorem lcm_se {elt iter : Expr} {ifs : List Expr} {scope : Scope} {x1 x2 : Str} {px1 px2 pt : Pos} {kk : Nat} {it : IT} {cs : IEs} {ie : IE} (j1 j2 : Nat) (hi : SIg Γ (.Tuple [.Name x1 px1, .Name x2 px2] kk pt) iter it) (hc : STs (Γ.blk scope) ifs cs) (he : SE (Γ.blk scope) elt ie) (hh : Γ.hot = false := by rfl)
    (hb : blkC Γ.N Γ.sc scope [(x1, j1), (x2, j2)] = true := by rfl) (h1 : Γ.N[j1]? = some x1 := by rfl) (h2 : Γ.N[j2]? = some x2 := by rfl) (l1 : (relS scope Γ.sc).names.lookup x1 = some .local := by rfl) (l2 : (relS scope Γ.sc).names.lookup x2 = some .local := by rfl)
    (hs : ∀ env y, foldedSetIterable iter env y = pure y := by intro _ _; rfl) : SE Γ (.ListComp elt [⟨.Tuple [.Name x1 px1, .Name x2 px2] kk pt, iter, ifs, 0⟩] scope pos) (.lcm [j1, j2] it cs ie) := (lcm_sf j1 j2 hi hc he hh hb h1 h2 l1 l2 hs).se fun _ _ _ _ _ h => by
  obtain ⟨_, _, ys, _, _, _, e⟩ := ev_lcm h
  exact ⟨ys, e⟩
/-- flat items stand anywhere -/
theorem rpa_flat {K : PySem.W.Frag} {B B' : Hp} : ∀ {xs : List V} {ds : List D}, RpA K B xs ds → ds.all flatD = true → RpA K B' xs ds
  | _, _, .nil, _ => .nil
  | _, d :: ds, .cons p r, h => by
    rw [List.all_cons, Bool.and_eq_true] at h
    refine .cons ?_ (rpa_flat r h.2)
    cases p with
    | non => exact .non
    | bl b => exact .bl b
    | int n => exact .int n
    | str s => exact .str s
    | _ => exact absurd h.1 (by intro e; cases e)
/-- x = [.. for a, b in ..], own lists lent to it -/
theorem ss_lcmOl (is : List Nat) (j : Nat) {elt iter : Expr} {ifs : List Expr} {scope : Scope} {x1 x2 : Str} {px1 px2 pt : Pos} {kk : Nat} {it : IT} {cs : IEs} {ie : IE} (j1 j2 : Nat) (hi : SIg Γ (.Tuple [.Name x1 px1, .Name x2 px2] kk pt) iter it) (hc : STs (Γ.blk scope) ifs cs) (he : SE (Γ.blk scope) elt ie) (hh : Γ.hot = false := by rfl)
    (hN : Γ.N[j]? = some x := by rfl) (hlv : Γ.sc.names.lookup x = some .local := by rfl) (hb : blkC Γ.N Γ.sc scope [(x1, j1), (x2, j2)] = true := by rfl) (h1 : Γ.N[j1]? = some x1 := by rfl) (h2 : Γ.N[j2]? = some x2 := by rfl) (l1 : (relS scope Γ.sc).names.lookup x1 = some .local := by rfl) (l2 : (relS scope Γ.sc).names.lookup x2 = some .local := by rfl)
    (hk : Γ.sc.kind = .function := by rfl) (hln : (p0.line == p1.line) = true := by rfl) (hany : (scope.names.any fun (n, k) => n == x && (k == .local || k == .cell)) = false := by rfl)
    (hs : ∀ env y, foldedSetIterable iter env y = pure y := by intro _ _; rfl) (hio : (Γ.io == some j) = false := by rfl) : SS Γ (.Assign [.Name x p0] (.ListComp elt [⟨.Tuple [.Name x1 px1, .Name x2 px2] kk pt, iter, ifs, 0⟩] scope p1) pos) (.ownl is j (.lcm [j1, j2] it cs ie)) := fun X p o =>
  PS_weak (ps_setLc (i := j) (own := [(x1, j1), (x2, j2)]) (g := gBoth Γ.K [j1, j2]) (tt := Ts Γ.K Γ.cl p cs) (te := Tx Γ.K Γ.cl p ie) (o.calm hh) (by rw [o.N]; exact o.nd) (by rw [o.N]; exact hN) (by rw [o.sc]; exact hlv)
    (sw_true (by rw [o.sc]; exact hk) (by rw [o.sc]; exact hlv) hln hany) (hi X p o.toOkx) (blkOk_by (by rw [o.N, o.sc]; exact hb))
    (fun s H C cl fp => two_pg (js := []) (o.calm hh) o.K (pg_name (show X.N.Nodup by rw [o.N]; exact o.nd) (show X.N[j1]? = some x1 by rw [o.N]; exact h1) (show Loc _ x1 from .inl (by rw [(o.toOkx.blk hh scope s H C cl fp).sc]; exact l1)) (.inr (by rw [(o.toOkx.blk hh scope s H C cl fp).sc]; exact l1))) (pg_name (show X.N.Nodup by rw [o.N]; exact o.nd) (show X.N[j2]? = some x2 by rw [o.N]; exact h2) (show Loc _ x2 from .inl (by rw [(o.toOkx.blk hh scope s H C cl fp).sc]; exact l2)) (.inr (by rw [(o.toOkx.blk hh scope s H C cl fp).sc]; exact l2))))
    (fun s H C cl fp => hc _ p (o.toOkx.blk hh scope s H C cl fp)) (fun s H C cl fp => he _ p (o.toOkx.blk hh scope s H C cl fp)) (hs _)) fun D σ H q => by
    obtain ⟨st, B, M, F, env, out, r, he, k⟩ := q
    unfold evS at he
    split at he
    · rename_i ds st1 e1
      obtain ⟨hf, he⟩ := ite_some he
      subst he
      obtain ⟨B1, M1, x1', y1, r1⟩ := r.freezeAll is
      refine lcm_read ⟨st, B1, M1, F, _, ds, st1, r1, e1, fun a xs B' H' x2' g1 g2 g3 g4 g5 g6 r' => ?_⟩
      obtain ⟨B2, x3, r2, le⟩ := r.giveBack x1' y1 x2' r'
      have hM : M a = none := by
        cases hm : M a with
        | none => rfl
        | some w =>
          rcases y1 a w hm with z | z
          · rw [g2] at z
            cases z
          · rw [x2' a w z] at g1
            cases g1
      have hB : B2 a = none := by
        cases hb2 : B2 a with
        | none => rfl
        | some w =>
          rw [le a w hb2] at g1
          cases g1
      exact k B2 _ _ H' x3 (r2.setOw ⟨hB, hM, g3, g4⟩ g5 (rpa_flat g6 hf) j (o.noIo hio))
    · cases he
end
/-- a number written with a sign -/
theorem ng_tc {X : Cx} {n : Int} {k : Nat} {p1 p2 : Pos} : PE X (.UnaryOp .USub (.Constant (.int n) k p1) p2) (tC (.int (-n))) := PE_weak (pe_un un_neg pe_int) fun σ H Q q => ⟨n, rfl, q⟩
theorem ng_se {Γ : Gam} {n : Int} {k : Nat} {p1 p2 : Pos} : SE Γ (.UnaryOp .USub (.Constant (.int n) k p1) p2) (.cst (.int (-n))) := se_cst (K := Γ.K) (.int (-n)) (fun _ => ng_tc) fun _ _ => .int (-n)
end Ip

set_option Elab.async false
set_option linter.all false
set_option maxRecDepth 100000
set_option maxHeartbeats 4000000
/-! x = a + b, lists: the sum is a new list of the def's own. -/
namespace Ip
open PySem L2
theorem addl_sf {Γ : Gam} {a b : Expr} {ia ib : IE} {pos : Pos} (ha : SE Γ a ia) (hb : SE Γ b ib) : SF Γ (.BinOp a .Add b pos) (.bin .add ia ib) := fun X p o => PE_weak (pe_op op_cat (ha X p o) (hb X p o)) fun σ H Q q => by
  obtain ⟨st, B, M, F, env, ds, st', r, he, k⟩ := q
  unfold ev at he
  cases e1 : ev Γ.cl ia env st with
  | none =>
    rw [e1] at he
    cases he
  | some xs =>
    obtain ⟨x, st1⟩ := xs
    rw [e1] at he
    cases e2 : ev Γ.cl ib env st1 with
    | none =>
      simp only [e2] at he
      cases he
    | some ys =>
      obtain ⟨y, st2⟩ := ys
      simp only [e2] at he
      obtain ⟨z, e3, e4⟩ := Option.map_eq_some_iff.mp he
      cases e4
      have sh : ∃ xs ys, x = .list xs ∧ y = .list ys ∧ xs.length + ys.length ≤ most ∧ ds = xs ++ ys := by
        unfold binD at e3
        split at e3
        all_goals first
          | (split at e3
             · cases e3
               exact ⟨_, _, rfl, rfl, by assumption, rfl⟩
             · cases e3)
          | cases e3
          | (split at e3 <;> cases e3)
      obtain ⟨xs, ys, rfl, rfl, hl, rfl⟩ := sh
      refine ⟨st, B, M, F, env, _, st1, r, e1, fun v B1 H1 x1 r1 p1 => ⟨st1, B1, M, F, env, _, st', r1, e2, fun u B2 H2 x2 r2 p2 => ?_⟩⟩
      have p1 := p1.mono x2
      cases p1 with
      | @lst l vs _ hx rx =>
        cases p2 with
        | @lst l2 us _ hy ry =>
          refine ⟨_, _, _, _, rfl, rfl, r2.bs.b _ _ hx, r2.bs.b _ _ hy, most_line (by rw [rx.length, ry.length]; exact hl), fun q hq => ?_⟩
          obtain ⟨h1, h2, h3, h4⟩ := r2.freshM hq
          exact k q _ B2 _ (x1.trans x2) h1 h2 h3 h4 upd_same (rx.append ry) (r2.more hq)
end Ip

set_option Elab.async false
set_option linter.all false
set_option maxRecDepth 100000
set_option maxHeartbeats 4000000
/-! Own lists that a callee changes; new lists that a callee returns; x[k] = e; list * int. -/
namespace Ip
open PySem L2
section
variable {K : PySem.W.Frag} {p : Pa} {st st' : Pl} {B B' M F : Hp} {env env' : List Sl} {σ σ' : L2.St} {H H' : Hp} {a : Addr} {o : HO}
theorem EnR.grow (r : EnR K p B M env σ) {i : Nat} {xs ys : List V} {ds es : List D} (he : env[i]? = some (.ow ds)) (hs : σ[i]? = some (some (.ref a))) (hm : M a = some (.lst xs)) (ry : RpA K B ys es) :
    EnR K p B (upd M a (.lst ys)) (env.set i (.ow es)) σ where
  len := by rw [List.length_set]; exact r.len
  at_ := fun k s hk => by
    by_cases e : i = k
    · subst e
      have hl : i < env.length := (List.getElem?_eq_some_iff.mp he).1
      rw [List.getElem?_set_self hl] at hk
      cases hk
      exact ⟨_, hs, ys, upd_same, ry⟩
    · rw [List.getElem?_set_ne e] at hk
      obtain ⟨w, h1, h2⟩ := r.at_ k s hk
      refine ⟨w, h1, ?_⟩
      cases s with
      | ow fs =>
        cases w with
        | none => exact h2
        | some v =>
          cases v with
          | ref b =>
            obtain ⟨zs, h3, h4⟩ := h2
            have hba : b ≠ a := fun z => by
              subst z
              exact e (r.ap i k ds fs b he hk hs h1)
            exact ⟨zs, by rw [upd_ne hba]; exact h3, h4⟩
          | _ => exact h2
      | no => exact h2
      | im d =>
        cases w with
        | none => exact h2
        | some v => exact h2
      | pl =>
        cases w with
        | none => exact h2
        | some v => cases v <;> exact h2
      | er c d => exact h2
  ap := fun k l es' fs b hk hl sk sl => by
    have old : ∀ {k : Nat} {es' : List D}, (env.set i (.ow es))[k]? = some (.ow es') → ∃ fs, env[k]? = some (.ow fs) := fun {k es'} hk => by
      by_cases e : i = k
      · subst e
        exact ⟨ds, he⟩
      · rw [List.getElem?_set_ne e] at hk
        exact ⟨_, hk⟩
    obtain ⟨f1, h1⟩ := old hk
    obtain ⟨f2, h2⟩ := old hl
    exact r.ap k l f1 f2 b h1 h2 sk sl
  io := fun k c es' hp hk => by
    by_cases e : i = k
    · subst e
      exact r.io i c ds hp he
    · rw [List.getElem?_set_ne e] at hk
      exact r.io k c es' hp hk
/-- what is left alone but for one own list -/
def lessM (M : Hp) (a : Addr) : Hp := fun b => if b = a then none else M b
theorem less_ne {b : Addr} (h : b ≠ a) : lessM M a b = M b := by
  unfold lessM
  rw [if_neg h]
theorem less_same : lessM M a a = none := by
  unfold lessM
  rw [if_pos rfl]
theorem less_of {b : Addr} {u : HO} (h : lessM M a b = some u) : b ≠ a ∧ M b = some u := by
  by_cases e : b = a
  · rw [e, less_same] at h
    cases h
  · rw [less_ne e] at h
    exact ⟨e, h⟩
theorem Rel.callI (r : Rel K p st B M F env σ H) {xs : List V} (hm : M a = some (.lst xs)) : Bs p st B (uni (lessM M a) F) H where
  b := r.bs.b
  f := fun c o h => by
    rcases uni_cases h with h | ⟨_, h⟩
    · exact r.m c o (less_of h).2
    · exact r.bs.f c o h
  d := fun c o h => by
    rcases uni_cases h with h | ⟨_, h⟩
    · exact (r.md c o (less_of h).2).1
    · exact r.bs.d c o h
  pf := by
    cases e : uni (lessM M a) F p with
    | none => rfl
    | some o =>
      rcases uni_cases e with h | ⟨_, h⟩
      · exact absurd rfl (r.md p o (less_of h).2).2.2
      · rw [r.bs.pf] at h
        cases h
  pb := r.bs.pb
  pl := r.bs.pl
theorem Rel.uniI (r : Rel K p st B M F env σ H) {xs : List V} (hm : M a = some (.lst xs)) : uni (lessM M a) F a = none := by
  rw [uni_r less_same]
  exact (r.md a _ hm).2.1
theorem Rel.backI (r : Rel K p st B M F env σ H) {i : Nat} {xs ys : List V} {ds es : List D} (he : env[i]? = some (.ow ds)) (hs : σ[i]? = some (some (.ref a))) (hm : M a = some (.lst xs)) (e : Ex B B') (w : Bs p st' B' (uni (lessM M a) F) H') (hb : B' a = none) (ha : H' a = some (.lst ys)) (ry : RpA K B' ys es) :
    Rel K p st' B' (upd M a (.lst ys)) F (env.set i (.ow es)) σ H' where
  bs := by
    have sub : ∀ c o, F c = some o → uni (lessM M a) F c = some o := fun c o h => by
      cases e1 : lessM M a c with
      | none => rw [uni_r e1]; exact h
      | some u =>
        have := (r.md c u (less_of e1).2).2.1
        rw [this] at h
        cases h
    exact ⟨w.b, fun c o h => w.f c o (sub c o h), fun c o h => w.d c o (sub c o h), r.bs.pf, w.pb, w.pl⟩
  m := fun c o h => by
    by_cases hc : c = a
    · subst hc
      rw [upd_same] at h
      rw [← h]
      exact ha
    · rw [upd_ne hc] at h
      exact w.f c o (uni_l (by rw [less_ne hc]; exact h))
  md := fun c o h => by
    by_cases hc : c = a
    · subst hc
      exact ⟨hb, (r.md c _ hm).2⟩
    · rw [upd_ne hc] at h
      exact ⟨w.d c o (uni_l (by rw [less_ne hc]; exact h)), (r.md c o h).2⟩
  en := (r.en.mono e).grow he hs hm ry
/-- the address of an own list -/
theorem Rel.own (r : Rel K p st B M F env σ H) {i : Nat} {ds : List D} (he : env[i]? = some (.ow ds)) : ∃ a xs, σ[i]? = some (some (.ref a)) ∧ M a = some (.lst xs) ∧ RpA K B xs ds := by
  obtain ⟨w, h1, h2⟩ := r.en.at_ i _ he
  cases w with
  | none => exact h2.elim
  | some v =>
    cases v with
    | ref a =>
      obtain ⟨xs, h3, h4⟩ := h2
      exact ⟨a, xs, h1, h3, h4⟩
    | _ => exact h2.elim
end
/-- arguments, the last one an own list -/
def Tgi (K : PySem.W.Frag) (cl : Cl) (p : Pa) (es : IEs) (i : Nat) : TA := fun σ H Q => ∃ st B M F env ds st' xs, Rel K p st B M F env σ H ∧ ag cl es env st = some (ds, st') ∧ env[i]? = some (.ow xs) ∧
  ∀ us B' H' a, Ex B B' → Rel K p st' B' M F env σ H' → ArA K p B' us ds → σ[i]? = some (some (.ref a)) → Q (us ++ [.ref a]) H'
def SGI (Γ : Gam) (es : List Expr) (i : IEs) (n : Nat) : Prop := ∀ X p, Oks Γ X p → PA X es (Tgi Γ.K Γ.cl p i n)
section
variable {Γ : Gam} {e a b c : Expr} {es rest : List Expr} {ia ib ic i : IE} {ies : IEs} {pos p0 p1 p2 : Pos} {x f : Str} {n : Nat}
theorem sgi_last {y : Str} (hN : Γ.N[n]? = some y := by rfl) (hv : Vis Γ.sc y := by first | exact Or.inl rfl | exact Or.inr (Or.inl rfl) | exact Or.inr (Or.inr rfl)) (hd : (y == ("__debug__" : Str)) = false := by decide) (hcd : (y == ("__classdict__" : Str)) = false := by decide)
    (hs : ∀ env, starEach [.Name y pos] env = (false, eval (.Name y pos) env) :: starEach [] env := by intro _; rfl) : SGI Γ [.Name y pos] .nil n := fun X p o =>
  PA_weak (pa_cons (pe_var (i := n) (by rw [o.N]; exact hN) (by rw [o.sc]; exact hv) hd hcd) pa_nil (hs _)) fun σ H Q q => by
  obtain ⟨st, B, M, F, env, ds, st', xs, r, he, hx, k⟩ := q
  unfold ag at he
  cases he
  obtain ⟨a, zs, h1, h2, h3⟩ := r.own hx
  exact ⟨_, h1, k [] B H a (Ex.refl B) r .nil h1⟩
theorem sgi_cons (he : SE Γ e i) (hr : SGI Γ es ies n) (hs : ∀ env, starEach (e :: es) env = (false, eval e env) :: starEach es env := by intro _; rfl) : SGI Γ (e :: es) (.cons i ies) n := fun X p o => PA_weak (pa_cons (he X p o.toOkx) (hr X p o) (hs _)) fun σ H Q q => by
  obtain ⟨st, B, M, F, env, ds, st', xs, r, he, hx, k⟩ := q
  unfold ag at he
  cases e1 : ev Γ.cl i env st with
  | none =>
    rw [e1] at he
    cases he
  | some zs =>
    obtain ⟨x, st1⟩ := zs
    rw [e1] at he
    cases e2 : ag Γ.cl ies env st1 with
    | none =>
      simp only [e2] at he
      cases he
    | some ys =>
      obtain ⟨ys, st2⟩ := ys
      simp only [e2] at he
      cases he
      exact ⟨st, B, M, F, env, x, st1, r, e1, fun v B1 H1 x1 r1 p1 => ⟨st1, B1, M, F, env, ys, _, xs, r1, e2, hx, fun us B2 H2 a x2 r2 p2 ha => k (v :: us) B2 H2 a (x1.trans x2) r2 (.cons (p1.mono x2) p2) ha⟩⟩
theorem sgi_pool (m : Nat) {y : Str} (hr : SGI Γ es ies n) (hN : Γ.N[m]? = some y := by rfl) (hv : Vis Γ.sc y := by first | exact Or.inl rfl | exact Or.inr (Or.inl rfl) | exact Or.inr (Or.inr rfl)) (hd : (y == ("__debug__" : Str)) = false := by decide) (hcd : (y == ("__classdict__" : Str)) = false := by decide)
    (hs : ∀ env, starEach (.Name y pos :: es) env = (false, eval (.Name y pos) env) :: starEach es env := by intro _; rfl) : SGI Γ (.Name y pos :: es) (.pool m ies) n := fun X p o =>
  PA_weak (pa_cons (pe_var (i := m) (by rw [o.N]; exact hN) (by rw [o.sc]; exact hv) hd hcd) (hr X p o) (hs _)) fun σ H Q q => by
  obtain ⟨st, B, M, F, env, ds, st', xs, r, he, hx, k⟩ := q
  unfold ag at he
  split at he
  · rename_i e1
    cases e2 : ag Γ.cl ies env st with
    | none =>
      simp only [e2] at he
      cases he
    | some ys =>
      obtain ⟨ys, st2⟩ := ys
      simp only [e2] at he
      cases he
      obtain ⟨ov, h1, h2⟩ := r.en.at_ m _ e1
      cases ov with
      | none => exact h2.elim
      | some v =>
        cases v with
        | ref q =>
          obtain rfl : q = p := h2
          exact ⟨_, h1, st, B, M, F, env, ys, _, xs, r, e2, hx, fun us B2 H2 a x2 r2 p2 ha => k (.ref p.a :: us) B2 H2 a x2 r2 (.pool p2) ha⟩
        | _ => exact h2.elim
  · cases he
theorem ss_dropc (h : SGI Γ (e :: es) ies n) (hh : Γ.hot = false := by rfl) (hf : Γ.fi.contains x = true := by rfl) (hg : GlS Γ.sc x := by rfl) (hdb : (x == ("__debug__" : Str)) = false := by decide)
    (he : ∀ env, starEach (e :: es) env = (false, eval e env) :: starEach es env := by intro _; rfl) (hpl : ∀ env, (backTo p1 (starEach es env)).any (·.1) = false := by intro _; rfl) (hs : ∀ env, swapsWith (.Call (.Name x p0) (e :: es) [] p1) none pos.line env = pure false := by intro _; rfl) :
    SS Γ (.Expr (.Call (.Name x p0) (e :: es) [] p1) pos) (.dropc x ies n) := fun X p o => by
  obtain ⟨fa, fd, ps, k, F, hm, hk, hb, hr⟩ := o.fi hh x (List.contains_iff_mem.mp hf)
  refine PS_weak (ps_expr (pe_call F hr (o.gl hg) hm hk hb .nil passN (h X p o) hdb (he _) (hpl _)) (hs _)) fun D σ H q => ?_
  obtain ⟨st, B, M, F0, env, out, r, he, kk⟩ := q
  unfold evS at he
  split at he
  · rename_i ds st1 e1
    split at he
    · rename_i xs hx
      split at he
      · rename_i ot st2 e2
        cases he
        refine ⟨st, B, M, F0, env, ds, st1, xs, r, e1, hx, fun us B1 H1 a x1 r1 p1 ha => ?_⟩
        obtain ⟨a', zs, h1, h2, h3⟩ := r1.own hx
        have : a' = a := by
          rw [ha] at h1
          cases h1
          rfl
        subst this
        obtain ⟨g1, g2, g3⟩ := r1.md _ _ h2
        show spI Γ.K Γ.cl x ((us ++ [.ref a']) ++ []) H1 _ E0
        rw [List.append_nil]
        exact ⟨p.o, st1, B1, uni (lessM M a') F0, ds, us, a', zs, xs, ot, st2, ⟨rfl, rfl, rfl⟩, (r1.callI h2).o, rfl, p1.o, r1.m _ _ h2, g1, r1.uniI h2, g3, h3, e2, fun B' H' ys x2 w hb' ha' ry =>
          kk B' _ σ H' (x1.trans x2) (r1.backI hx ha h2 x2 w.u hb' ha' ry)⟩
      · cases he
    · cases he
  · cases he
/-- x = f(..), a new list or None -/
theorem ss_setf (j : Nat) (h : SG Γ (e :: es) ies) (hio : (Γ.io == some j) = false := by rfl) (hh : Γ.hot = false := by rfl) (hf : Γ.ff.contains f = true := by rfl) (hg : GlS Γ.sc f := by rfl) (hdb : (f == ("__debug__" : Str)) = false := by decide)
    (he : ∀ env, starEach (e :: es) env = (false, eval e env) :: starEach es env := by intro _; rfl) (hpl : ∀ env, (backTo p1 (starEach es env)).any (·.1) = false := by intro _; rfl)
    (hN : Γ.N[j]? = some x := by rfl) (hl : Loc Γ.sc x := by first | exact Or.inl rfl | exact Or.inr rfl) (hs : ∀ env, swapsWith (.Call (.Name f p2) (e :: es) [] p1) (some (.Name x p0)) pos.line env = pure false := by intro _; rfl) :
    SS Γ (.Assign [.Name x p0] (.Call (.Name f p2) (e :: es) [] p1) pos) (.setf j f ies) := fun X p o => by
  obtain ⟨fa, fd, ps, k, F, hm, hk, hb, hr⟩ := o.ff hh f (List.contains_iff_mem.mp hf)
  refine PS_weak (ps_set (i := j) (by rw [o.N]; exact o.nd) (by rw [o.N]; exact hN) (by rw [o.sc]; exact hl) (pe_call F hr (o.gl hg) hm hk hb .nil passN (h X p o.toOkx) hdb (he _) (hpl _)) (hs _) (.inl (o.fnx x))) fun D σ H q => ?_
  obtain ⟨st, B, M, F0, env, out, r, he, kk⟩ := q
  unfold evS at he
  split at he
  · rename_i ds st1 e1
    have key : ∀ (d : Ip.D) (st2 : Pl), Γ.cl f ds st1 = some (d, st2) → (∀ v B' H', Ex B B' → Rel Γ.K p st2 B' M F0 env σ H' → RtF Γ.K p B' (uni M F0) H' v d → D.nx (σ.set j (some v)) H') → tCall (spR Γ.K Γ.cl f) [] E0 (Tg Γ.K Γ.cl p ies) σ H (fun v H' => D.nx (σ.set j (some v)) H') := fun d st2 e2 g => by
      refine ⟨st, B, M, F0, env, ds, st1, r, e1, fun vs B1 H1 x1 r1 p1 => ?_⟩
      show spR Γ.K Γ.cl f (vs ++ []) H1 _ E0
      rw [List.append_nil]
      exact ⟨p.o, st1, B1, uni M F0, ds, d, st2, ⟨rfl, rfl, rfl⟩, r1.call.o, p1.o, e2, fun v B' H' x2 w z => g v B' H' (x1.trans x2) (r1.back x2 w.u) z⟩
    split at he
    · rename_i st2 e2
      cases he
      refine key _ _ e2 fun v B' H' x1 r1 z => ?_
      rcases z with ⟨_, rfl⟩ | ⟨_, _, _, z, _⟩
      · exact kk B' M _ H' x1 (r1.set .non j)
      · cases z
    · rename_i xs st2 e2
      cases he
      refine key _ _ e2 fun v B' H' x1 r1 z => ?_
      rcases z with ⟨z, _⟩ | ⟨a, zs, es', z, rfl, h1, h2, h3, h4, h5⟩
      · cases z
      · cases z
        have hM : M a = none := by
          cases hm : M a with
          | none => rfl
          | some u => rw [uni_l hm] at h4; cases h4
        have hF : F0 a = none := by rw [uni_r hM] at h4; exact h4
        exact kk B' _ _ H' x1 (r1.setOw ⟨h3, hM, hF, h5⟩ h1 h2 j (o.noIo hio))
    · cases he
  · cases he
/-- x[k] = e, x an own list -/
theorem ss_oset (k : Nat) {j0 : Nat} {q1 q2 : Pos} (n : Nat) (h : SE Γ e i) (hN : Γ.N[n]? = some x := by rfl) (hv : Vis Γ.sc x := by first | exact Or.inl rfl | exact Or.inr (Or.inl rfl) | exact Or.inr (Or.inr rfl)) (hd : (x == ("__debug__" : Str)) = false := by decide) (hcd : (x == ("__classdict__" : Str)) = false := by decide)
    (hs : ∀ env, swapsWithSole [.Subscript (.Name x p0) (.Constant (.int (k : Int)) j0 q1) q2] e pos.line env = pure false := by intro _; rfl) (hw : ∀ env, swappedStores [.Subscript (.Name x p0) (.Constant (.int (k : Int)) j0 q1) q2] e env = pure none := by intro _; rfl)
    (h1 : ∀ env, (assignEach [.Subscript (.Name x p0) (.Constant (.int (k : Int)) j0 q1) q2] env).map (·.2) = [assign (.Subscript (.Name x p0) (.Constant (.int (k : Int)) j0 q1) q2) env] := by intro _; rfl) :
    SS Γ (.Assign [.Subscript (.Name x p0) (.Constant (.int (k : Int)) j0 q1) q2] e pos) (.oset n k i) := fun X p o =>
  PS_weak (ps_asg (h X p o.toOkx) (pg_sub (pe_var (i := n) (by rw [o.N]; exact hN) (by rw [o.sc]; exact hv) hd hcd) pe_int set_list) (hs _) (hw _) (h1 _)) fun D σ H q => by
    obtain ⟨st, B, M, F, env, out, r, he, kk⟩ := q
    unfold evS at he
    split at he
    · rename_i d st1 e1
      split at he
      · rename_i ds e2
        obtain ⟨hl, he⟩ := ite_some he
        subst he
        refine ⟨st, B, M, F, env, d, st1, r, e1, fun v B' H' x1 r' pv => ?_⟩
        obtain ⟨a, xs, g1, g2, g3⟩ := r'.own e2
        refine ⟨_, g1, a, xs, (k : Int), k, rfl, rfl, r'.m _ _ g2, ?_, ?_⟩
        · unfold ixN
          rw [if_pos (Int.natCast_nonneg k), if_pos (by rw [g3.length]; exact Int.ofNat_lt.mpr hl)]
          rfl
        · exact kk B' _ σ _ x1 (r'.grow e2 g1 g2 (g3.set k pv))
      · cases he
    · cases he
theorem rpa_rep {K : PySem.W.Frag} {B : Hp} {xs : List V} {ds : List D} (r : RpA K B xs ds) : ∀ n : Nat, RpA K B (List.replicate n xs).flatten (List.replicate n ds).flatten
  | 0 => .nil
  | n + 1 => by
    rw [List.replicate_succ, List.replicate_succ, List.flatten_cons, List.flatten_cons]
    exact r.append (rpa_rep r n)
theorem rep_se (ha : SE Γ a ia) (hb : SE Γ b ib) : SE Γ (.BinOp a .Mult b pos) (.rep ia ib) := fun X p o => PE_weak (pe_op op_rep (ha X p o) (hb X p o)) fun σ H Q q => by
  obtain ⟨st, B, M, F, env, d, st', r, he, k⟩ := q
  unfold ev at he
  split at he
  · rename_i xs st1 e1
    split at he
    · rename_i m st2 e2
      obtain ⟨⟨h1, h2, h3⟩, he⟩ := ite_some he
      cases he
      refine ⟨st, B, M, F, env, _, st1, r, e1, fun v B1 H1 x1 r1 p1 => ⟨st1, B1, M, F, env, _, _, r1, e2, fun u B2 H2 x2 r2 p2 => ?_⟩⟩
      have p1 := p1.mono x2
      cases p2
      cases p1 with
      | @lst l vs _ hx rx =>
        refine ⟨l, m, vs, rfl, rfl, r2.bs.b _ _ hx, by omega, by omega, most_line (by rw [rx.length]; exact h3), fun q hq => ?_⟩
        exact k (.ref q) _ _ ((x1.trans x2).trans (Ex.new (r2.bs.b.free hq))) (r2.new hq) (.lst upd_same ((rpa_rep rx _).mono (Ex.new (r2.bs.b.free hq))))
    · cases he
  · cases he
end
end Ip

set_option Elab.async false
set_option linter.all false
set_option maxRecDepth 100000
set_option maxHeartbeats 4000000
/-! Defs that change their last list, and defs that return a new list, in the table. -/
namespace Ip
open PySem L2
theorem Bs.re {p p' : Pa} {st : Pl} {B F H : Hp} (w : Bs p st B F H) (e1 : p'.a = p.a := by rfl) (e2 : p'.q = p.q := by rfl) : Bs p' st B F H := by
  obtain ⟨a, q, l, i, f⟩ := p
  obtain ⟨a', q', l', i', f'⟩ := p'
  dsimp only at e1 e2
  subst e1 e2
  exact ⟨w.b, w.f, w.d, w.pf, w.pb, w.pl⟩
theorem ArA.re0 {K : PySem.W.Frag} {p p' : Pa} {B : Hp} (e : p'.a = p.a) : ∀ {vs : List V} {as : List (Option D)}, ArA K p B vs as → ArA K p' B vs as
  | _, _, .nil => .nil
  | _, _, .cons h r => .cons h (ArA.re0 e r)
  | _, _, .pool (vs := vs) (ds := ds) r => by
    have z : ArA K p' B (.ref p'.a :: vs) (none :: ds) := .pool (ArA.re0 e r)
    rw [e] at z
    exact z
theorem ArA.re {K : PySem.W.Frag} {p p' : Pa} {B : Hp} {vs : List V} {as : List (Option D)} (h : ArA K p B vs as) (e : p'.a = p.a := by rfl) : ArA K p' B vs as := ArA.re0 e h
def runIO (n : Nat) (cl : Cl) (I : IF) (as : List (Option D)) (st : Pl) : Option (D × Pl) := if as.length = n then runO cl I as st else none
theorem runIO_of {n : Nat} {cl : Cl} {I : IF} {as : List (Option D)} {s : Pl} {d : D} {s' : Pl} (e : runIO n cl I as s = some (d, s')) : as.length = n ∧ runO cl I as s = some (d, s') := by
  unfold runIO at e
  split at e
  · rename_i hl
    exact ⟨hl, e⟩
  · cases e
theorem runO_of {cl : Cl} {I : IF} {as : List (Option D)} {ds : List D} {s : Pl} {d : D} {s' : Pl} (e : runO cl I (as ++ [some (.list ds)]) s = some (d, s')) :
    ∃ env out, evSs cl I.body (as.map slOf ++ .ow ds :: List.replicate (I.n - (as.length + 1)) .no) s = some (.nx env s') ∧ env[as.length]? = some (.ow out) ∧ d = .list out := by
  unfold runO at e
  simp only [List.getLast?_append, List.getLast?_singleton, Option.some_or, List.dropLast_concat, List.length_append, List.length_singleton, Nat.add_sub_cancel] at e
  split at e
  · rename_i env st1 e1
    split at e
    · rename_i out e2
      cases e
      exact ⟨env, out, e1, e2, rfl⟩
    · cases e
  · cases e
theorem rel_startI {K : PySem.W.Frag} {p : Pa} {st : Pl} {B F H : Hp} {us : List V} {as : List (Option D)} {N : List Str} {a : Addr} {xs : List V} {ds : List D} (w : Bs p st B F H) (ha : ArA K p B us as) (h1 : H a = some (.lst xs)) (h2 : B a = none) (h3 : F a = none) (h4 : a ≠ p.a) (h5 : RpA K B xs ds) (hp : p.io = some (as.length, a)) :
    Rel K p st B (upd (fun _ => none) a (.lst xs)) F (as.map slOf ++ .ow ds :: List.replicate (N.length - (as.length + 1)) .no) (L2.start N (us ++ [.ref a])) H where
  bs := w
  m := fun b o h => by
    by_cases e : b = a
    · subst e
      rw [upd_same] at h
      rw [← h]
      exact h1
    · rw [upd_ne e] at h
      cases h
  md := fun b o h => by
    by_cases e : b = a
    · subst e
      exact ⟨h2, h3, h4⟩
    · rw [upd_ne e] at h
      cases h
  en := by
    have hl := ha.length
    have key : ∀ (i : Nat) (s : Sl), (as.map slOf ++ .ow ds :: List.replicate (N.length - (as.length + 1)) .no)[i]? = some s → (i < as.length ∧ ∃ d, as[i]? = some d ∧ s = slOf d) ∨ (i = as.length ∧ s = .ow ds) ∨ (as.length < i ∧ i < as.length + 1 + (N.length - (as.length + 1)) ∧ s = .no) := fun i s hi => by
      by_cases c : i < as.length
      · rw [List.getElem?_append_left (by simpa using c), List.getElem?_map] at hi
        obtain ⟨d, g1, g2⟩ := Option.map_eq_some_iff.mp hi
        exact .inl ⟨c, d, g1, g2.symm⟩
      · rw [List.getElem?_append_right (by simpa using c), List.length_map] at hi
        by_cases c2 : i = as.length
        · subst c2
          rw [Nat.sub_self] at hi
          cases hi
          exact .inr (.inl ⟨rfl, rfl⟩)
        · obtain ⟨m, hm⟩ : ∃ m, i - as.length = m + 1 := ⟨i - as.length - 1, by omega⟩
          rw [hm, List.getElem?_cons_succ, List.getElem?_replicate] at hi
          split at hi
          · rename_i hlt
            cases hi
            exact .inr (.inr ⟨by omega, by omega, rfl⟩)
          · cases hi
    have ss : ∀ i, i < as.length → (L2.start N (us ++ [.ref a]))[i]? = us[i]?.map some := fun i c => by
      unfold L2.start
      rw [List.getElem?_append_left (by simp; omega), List.getElem?_map, List.getElem?_append_left (by omega)]
    have s2 : (L2.start N (us ++ [.ref a]))[as.length]? = some (some (.ref a)) := by
      unfold L2.start
      rw [List.getElem?_append_left (by simp; omega), List.getElem?_map, List.getElem?_append_right (by omega), ← hl, Nat.sub_self]
      rfl
    refine ⟨?_, fun i s hi => ?_, fun i j es fs b hi hj _ _ => ?_, fun i b es z hi => ?_⟩
    · unfold L2.start
      simp [hl]
    · rcases key i s hi with ⟨c, d, g1, rfl⟩ | ⟨rfl, rfl⟩ | ⟨c1, c2, rfl⟩
      · obtain ⟨v, g3, g4⟩ := ha.get g1
        refine ⟨some v, by rw [ss i c, g3]; rfl, ?_⟩
        cases d with
        | none => cases v <;> exact g4
        | some d => exact g4
      · exact ⟨_, s2, xs, upd_same, h5⟩
      · refine ⟨none, ?_, True.intro⟩
        unfold L2.start
        rw [List.getElem?_append_right (by simp; omega), List.getElem?_replicate, if_pos (by simp; omega)]
    · have one : ∀ {i : Nat} {es : List D}, (as.map slOf ++ .ow ds :: List.replicate (N.length - (as.length + 1)) .no)[i]? = some (.ow es) → i = as.length := fun {i es} hi => by
        rcases key _ _ hi with ⟨_, d, _, z⟩ | ⟨z, _⟩ | ⟨_, _, z⟩
        · cases d <;> cases z
        · exact z
        · cases z
      rw [one hi, one hj]
    · rw [hp] at z
      cases z
      exact s2
section
variable {P : Program} {w : World} {K : PySem.W.Frag} {mg : Str → Option Value} {base : Heap}
theorem foi_zero {k : Nat} {f : Str} {st : Stmt} {ps : List Str} (h : Hv K mg f st ps) : FoI P w K mg base k noCl f := by
  obtain ⟨fa, fd, dvs, F, hm, hb⟩ := h
  have no : ∀ vs H Q E, ¬ spI K noCl f vs H Q E := fun vs H Q E q => by
    obtain ⟨_, _, _, _, _, _, _, _, _, _, _, _, _, _, _, _, _, _, _, _, e, _⟩ := q
    cases e
  exact ⟨fa, fd, ps, ⟨fun vs H Q E q => (no _ _ _ _ q).elim, fun A outer s H args us vs Q E _ _ _ _ q => (no _ _ _ _ q).elim⟩, hm, F.kp, hb⟩
theorem for_zero {k : Nat} {f : Str} {st : Stmt} {ps : List Str} (h : Hv K mg f st ps) : FoR P w K mg base k noCl f := by
  obtain ⟨fa, fd, dvs, F, hm, hb⟩ := h
  have no : ∀ vs H Q E, ¬ spR K noCl f vs H Q E := fun vs H Q E q => by
    obtain ⟨_, _, _, _, _, _, _, _, _, _, e, _⟩ := q
    cases e
  exact ⟨fa, fd, ps, ⟨fun vs H Q E q => (no _ _ _ _ q).elim, fun A outer s H args us vs Q E _ _ _ _ q => (no _ _ _ _ q).elim⟩, hm, F.kp, hb⟩
theorem FoI.up {j k : Nat} {cl : Cl} {f : Str} (h : FoI P w K mg base j cl f) (l : j ≤ k) : FoI P w K mg base k cl f := by
  obtain ⟨fa, fd, ps, F, q⟩ := h
  exact ⟨fa, fd, ps, F.mono l, q⟩
theorem FoR.up {j k : Nat} {cl : Cl} {f : Str} (h : FoR P w K mg base j cl f) (l : j ≤ k) : FoR P w K mg base k cl f := by
  obtain ⟨fa, fd, ps, F, q⟩ := h
  exact ⟨fa, fd, ps, F.mono l, q⟩
/-- a new list may become known -/
theorem FoR.fo {k : Nat} {cl : Cl} {f : Str} (h : FoR P w K mg base k cl f) : Fo P w K mg base k cl f := by
  obtain ⟨fa, fd, ps, F, q⟩ := h
  have up : ∀ vs H Q E, spF K cl f vs H Q E → spR K cl f vs H Q E := fun vs H Q E s => by
    obtain ⟨p, st, B, F0, as, d, st', hs, w1, ha, he, kk⟩ := s
    refine ⟨p, st, B, F0, as, d, st', hs, w1, ha, he, fun v B' H' x w2 z => ?_⟩
    rcases z with ⟨rfl, rfl⟩ | ⟨a, xs, ds, rfl, rfl, h1, h2, h3, h4, h5⟩
    · exact kk .non B' H' x w2 .non
    · have e : Ex B' (upd B' a (.lst xs)) := Ex.new h3
      refine kk (.ref a) (upd B' a (.lst xs)) H' (x.trans e) ⟨fun c u g => ?_, w2.f, fun c u g => ?_, w2.pf, ?_, w2.pl.1, e _ _ w2.pl.2⟩ (.lst upd_same (h2.mono e))
      · by_cases hc : c = a
        · subst hc
          rw [upd_same] at g
          rw [← g]
          exact h1
        · rw [upd_ne hc] at g
          exact w2.b c u g
      · rw [upd_ne (ne_of_none g h4)]
        exact w2.d c u g
      · rw [upd_ne (fun e => h5 e.symm)]
        exact w2.pb
  exact ⟨fa, fd, ps, ⟨fun vs H Q E s => F.len vs H Q E (up _ _ _ _ s), fun A outer s H args us vs Q E hr e0 hb hv hs => F.run A outer s H args us vs Q E hr e0 hb hv (up _ _ _ _ hs)⟩, q⟩
theorem foi_step {k : Nat} {f : Str} {st : Stmt} {N ps : List Str} {Γ : Gam} {I : IF} {cl : Cl} (h : Hv K mg f st ps) (S : FnScope N ps (defScope st)) (hh : Γ.hot = false) (hK : Γ.K = K) (hN : Γ.N = N) (hsc : Γ.sc = defScope st) (hb : SSs Γ (defBody st) I.body) (hn : I.n = N.length)
    (hcl : ∀ as s, cl (ioN f) as s = runIO ps.length Γ.cl I as s) (a : Av P w K mg base k Γ) (hio : Γ.io = some (ps.length - 1) := by rfl) (hfr : Γ.fr = false := by rfl) : FoI P w K mg base (k + 1) cl f := by
  obtain ⟨fa, fd, dvs, F, hm, hbn⟩ := h
  refine ⟨fa, fd, ps, F.ok S (fun vs H Q E h => ?_) (fun cdv A outer s H vs Q E hr h => ?_), hm, F.kp, hbn⟩
  · obtain ⟨p, st, B, F, as, us, a, xs, ds, out, st', _, _, rfl, ha, _, _, _, _, _, he, _⟩ := h
    rw [hcl] at he
    have hl := (runIO_of he).1
    rw [List.length_append] at hl ⊢
    rw [ha.length]
    exact hl
  · obtain ⟨p, st, B, F0, as, us, c, xs, ds, out, st', hs, w1, rfl, ha, h1, h2, h3, h4, h5, he, kk⟩ := h
    rw [hcl] at he
    obtain ⟨hl, he⟩ := runIO_of he
    obtain ⟨env, out', e1, e2, e3⟩ := runO_of he
    cases e3
    have hl' : as.length + 1 = ps.length := by rw [← hl, List.length_append]; rfl
    refine ⟨_, hb _ ⟨p.a, p.q, noLk, some (as.length, c), false⟩ (a.oks hh hK hN S.nd hsc rfl (by rw [hio, ← hl']; rfl) hfr.symm hr), ?_⟩
    rw [hK]
    rw [hn] at e1
    refine ⟨st, B, _, F0, _, _, rel_startI (w1.re) ha.re h1 h2 h3 h4 h5 rfl, e1, fun B' M' σ' H' x r => ?_⟩
    obtain ⟨c', ys, g1, g2, g3⟩ := r.own e2
    have g4 := r.en.io as.length c out rfl e2
    rw [g4] at g1
    cases g1
    exact kk B' H' ys x (r.bs.re) (r.md _ _ g2).1 (r.m _ _ g2) g3
theorem for_step {k : Nat} {f : Str} {st : Stmt} {N ps : List Str} {Γ : Gam} {I : IF} {cl : Cl} (h : Hv K mg f st ps) (S : FnScope N ps (defScope st)) (hh : Γ.hot = false) (hK : Γ.K = K) (hN : Γ.N = N) (hsc : Γ.sc = defScope st) (hb : SSs Γ (defBody st) I.body) (hn : I.n = N.length)
    (hcl : ∀ as s, cl f as s = runI ps.length Γ.cl I as s) (a : Av P w K mg base k Γ) (hio : Γ.io = none := by rfl) (hfr : Γ.fr = true := by rfl) : FoR P w K mg base (k + 1) cl f := by
  obtain ⟨fa, fd, dvs, F, hm, hbn⟩ := h
  refine ⟨fa, fd, ps, F.ok S (fun vs H Q E h => ?_) (fun cdv A outer s H vs Q E hr h => ?_), hm, F.kp, hbn⟩
  · obtain ⟨p, st, B, F, as, d, st', _, _, ha, he, _⟩ := h
    rw [hcl] at he
    rw [ha.length, (runI_of he).1]
  · obtain ⟨p, st, B, F0, as, d, st', hs, w1, ha, he, kk⟩ := h
    rw [hcl] at he
    have hrun := (runI_of he).2
    refine ⟨_, hb _ ⟨p.a, p.q, noLk, none, true⟩ (a.oks hh hK hN S.nd hsc rfl (by rw [hio]; rfl) hfr.symm hr), ?_⟩
    rw [hK]
    refine ⟨st, B, fun _ => none, F0, as.map slOf ++ List.replicate (N.length - as.length) .no, ?_⟩
    unfold runF at hrun
    rw [hn] at hrun
    cases e1 : evSs Γ.cl I.body (as.map slOf ++ List.replicate (N.length - as.length) .no) st with
    | none =>
      rw [e1] at hrun
      cases hrun
    | some o =>
      rw [e1] at hrun
      cases o with
      | rt d2 st2 =>
        cases hrun
        exact ⟨_, rel_start (w1.re) ha.re, rfl, fun v B' H' x r pv => kk v B' H' x (Bs.re r) pv⟩
      | nx env2 st2 =>
        cases hrun
        exact ⟨_, rel_start (w1.re) ha.re, rfl, fun B' M' σ' H' x r => kk .non B' H' x (r.bs.re) (.inl ⟨rfl, rfl⟩)⟩
      | bk env2 st2 => cases hrun
      | ct env2 st2 => cases hrun
end
end Ip

set_option Elab.async false
set_option linter.all false
set_option maxRecDepth 100000
set_option maxHeartbeats 4000000
namespace Ip
open PySem L2
/-! One step of the evaluator, each form by its own rule. -/
def fb (cl : Cl) (j : Sg) (b : ISs) : D → List Sl → Pl → Option Out := fun d env st => match sgD j d env with
  | some env1 => evSs cl b env1 st
  | none => none
theorem fb_eq (cl : Cl) (j : Sg) (b : ISs) (d : D) (env : List Sl) (st : Pl) : fb cl j b d env st = match sgD j d env with
  | some env1 => evSs cl b env1 st
  | none => none := id rfl
def lb (cl : Cl) (j : Nat) (cs : IEs) (e : IE) (env : List Sl) : D → Pl → Option (Option D × Pl) := fun d st => match et cl cs (env.set j (.im d)) st with
  | some (true, st2) => (match ev cl e (env.set j (.im d)) st2 with
    | some (y, st3) => some (some y, st3)
    | none => none)
  | some (false, st2) => some (none, st2)
  | none => none
theorem lb_eq (cl : Cl) (j : Nat) (cs : IEs) (e : IE) (env : List Sl) (d : D) (st : Pl) : lb cl j cs e env d st = match et cl cs (env.set j (.im d)) st with
  | some (true, st2) => (match ev cl e (env.set j (.im d)) st2 with
    | some (y, st3) => some (some y, st3)
    | none => none)
  | some (false, st2) => some (none, st2)
  | none => none := id rfl
def lbm (cl : Cl) (js : List Nat) (cs : IEs) (e : IE) (env : List Sl) : D → Pl → Option (Option D × Pl) := fun d st =>
  match itD d with
  | some zs => (match setMany js zs env with
    | some env1 => (match et cl cs env1 st with
      | some (true, st2) => (match ev cl e env1 st2 with
        | some (y, st3) => some (some y, st3)
        | none => none)
      | some (false, st2) => some (none, st2)
      | none => none)
    | none => none)
  | none => none
theorem lbm_eq (cl : Cl) (js : List Nat) (cs : IEs) (e : IE) (env : List Sl) (d : D) (st : Pl) : lbm cl js cs e env d st =
  (match itD d with
  | some zs => (match setMany js zs env with
    | some env1 => (match et cl cs env1 st with
      | some (true, st2) => (match ev cl e env1 st2 with
        | some (y, st3) => some (some y, st3)
        | none => none)
      | some (false, st2) => some (none, st2)
      | none => none)
    | none => none)
  | none => none) := id rfl
variable {cl : Cl}
@[simp] theorem q_ev_1 {i} {env : List Sl} {st : Pl} : ev cl (.var i : IE) env st = (match env[i]? with
    | some (.im d) => some (d, st)
    | _ => none) := id rfl
@[simp] theorem q_ev_2 {c} {env : List Sl} {st : Pl} : ev cl (.cst c : IE) env st = some (c.d, st) := id rfl
@[simp] theorem q_ev_3 {f as} {env : List Sl} {st : Pl} : ev cl (.call f as : IE) env st = (match ag cl as env st with
    | some (ds, st1) => cl f ds st1
    | none => none) := id rfl
@[simp] theorem q_ev_4 {f as} {env : List Sl} {st : Pl} : ev cl (.bi f as : IE) env st = (match ea cl as env st with
    | some (ds, st1) => (biD f ds).map fun d => (d, st1)
    | none => none) := id rfl
@[simp] theorem q_ev_5 {o a b} {env : List Sl} {st : Pl} : ev cl (.bin o a b : IE) env st = (match ev cl a env st with
    | some (x, st1) => (match ev cl b env st1 with
      | some (y, st2) => (binD o x y).map fun d => (d, st2)
      | none => none)
    | none => none) := id rfl
@[simp] theorem q_ev_6 {o a b} {env : List Sl} {st : Pl} : ev cl (.cmp o a b : IE) env st = (match ev cl a env st with
    | some (x, st1) => (match ev cl b env st1 with
      | some (y, st2) => (cmpD o x y).map fun d => (.bool d, st2)
      | none => none)
    | none => none) := id rfl
@[simp] theorem q_ev_7 {a b} {env : List Sl} {st : Pl} : ev cl (.and a b : IE) env st = (match ev cl a env st with
    | some (.bool true, st1) => ev cl b env st1
    | some (.bool false, st1) => some (.bool false, st1)
    | _ => none) := id rfl
@[simp] theorem q_ev_8 {a b} {env : List Sl} {st : Pl} : ev cl (.or a b : IE) env st = (match ev cl a env st with
    | some (.bool true, st1) => some (.bool true, st1)
    | some (.bool false, st1) => ev cl b env st1
    | _ => none) := id rfl
@[simp] theorem q_ev_9 {a} {env : List Sl} {st : Pl} : ev cl (.not a : IE) env st = (match ev cl a env st with
    | some (.bool b, st1) => some (.bool (!b), st1)
    | _ => none) := id rfl
@[simp] theorem q_ev_10 {a} {env : List Sl} {st : Pl} : ev cl (.neg a : IE) env st = (match ev cl a env st with
    | some (.int i, st1) => some (.int (-i), st1)
    | _ => none) := id rfl
@[simp] theorem q_ev_11 {es} {env : List Sl} {st : Pl} : ev cl (.tup es : IE) env st = (match ea cl es env st with
    | some (ds, st1) => if ds.length ≤ most then some (.tuple ds, st1) else none
    | none => none) := id rfl
@[simp] theorem q_ev_12 {es} {env : List Sl} {st : Pl} : ev cl (.lst es : IE) env st = (match ea cl es env st with
    | some (ds, st1) => if ds.length ≤ most then some (.list ds, st1) else none
    | none => none) := id rfl
@[simp] theorem q_ev_13 {a b} {env : List Sl} {st : Pl} : ev cl (.ix a b : IE) env st = (match ev cl a env st with
    | some (x, st1) => (match ev cl b env st1 with
      | some (y, st2) => (ixD x y).map fun d => (d, st2)
      | none => none)
    | none => none) := id rfl
@[simp] theorem q_ev_14 {a lo hi} {env : List Sl} {st : Pl} : ev cl (.sl a lo hi : IE) env st = (match ev cl a env st with
    | some (x, st1) => (match eo cl lo env st1 with
      | some (l, st2) => (match eo cl hi env st2 with
        | some (h, st3) => (slD x l h).map fun d => (d, st3)
        | none => none)
      | none => none)
    | none => none) := id rfl
@[simp] theorem q_ev_15 {c a b} {env : List Sl} {st : Pl} : ev cl (.ifx c a b : IE) env st = (match ev cl c env st with
    | some (.bool true, st1) => ev cl a env st1
    | some (.bool false, st1) => ev cl b env st1
    | _ => none) := id rfl
@[simp] theorem q_ev_16 {j it cs e} {env : List Sl} {st : Pl} : ev cl (.lc j it cs e : IE) env st = (match ei cl it env st with
    | some (ds, st1) => if ds.length ≤ most then (match lcG (lb cl j cs e env) ds st1 with
      | some (ys, st4) => some (.list ys, st4)
      | none => none) else none
    | none => none) := id rfl
@[simp] theorem q_ev_17 {i} {env : List Sl} {st : Pl} : ev cl (.olen i : IE) env st = (match env[i]? with
    | some (.ow ds) => some (.int ds.length, st)
    | some (.im d) => (biD .len [d]).map fun z => (z, st)
    | _ => none) := id rfl
@[simp] theorem q_ev_18 {i k} {env : List Sl} {st : Pl} : ev cl (.pix i k : IE) env st = (match env[i]? with
    | some .pl => (st.at_ k).map fun n => (.int n, st)
    | _ => none) := id rfl
@[simp] theorem q_ev_19 {i} {env : List Sl} {st : Pl} : ev cl (.pcel i : IE) env st = (match env[i]? with
    | some .pl => (atI st.ns st.i).map fun n => (.int n, st)
    | _ => none) := id rfl
@[simp] theorem q_ev_20 {t e} {env : List Sl} {st : Pl} : ev cl (.isi t e : IE) env st = (match ev cl e env st with
    | some (x, st1) => some (.bool (isiD t x), st1)
    | none => none) := id rfl
@[simp] theorem q_ev_21 {is e} {env : List Sl} {st : Pl} : ev cl (.lent is e : IE) env st = (match ev cl e (frzE env is) st with
    | some (x, st1) => if flatD x = true then some (x, st1) else none
    | none => none) := id rfl
@[simp] theorem q_ev_22 {o1 o2 a b c} {env : List Sl} {st : Pl} : ev cl (.chn o1 o2 a b c : IE) env st = (match ev cl a env st with
    | some (x, st1) => (match ev cl b env st1 with
      | some (y, st2) => (match cmpD o1 x y with
        | some true => (match ev cl c env st2 with
          | some (z, st3) => (cmpD o2 y z).map fun d => (.bool d, st3)
          | none => none)
        | some false => some (.bool false, st2)
        | none => none)
      | none => none)
    | none => none) := id rfl
@[simp] theorem q_ev_23 {es} {env : List Sl} {st : Pl} : ev cl (.js es : IE) env st = (match ea cl es env st with
    | some (ds, st1) => (joinD ds Str.empty).map fun s => (.str s, st1)
    | none => none) := id rfl
@[simp] theorem q_ev_24 {e} {env : List Sl} {st : Pl} : ev cl (.rev e : IE) env st = (match ev cl e env st with
    | some (.list xs, st1) => some (.list xs.reverse, st1)
    | _ => none) := id rfl
@[simp] theorem q_ev_25 {d} {env : List Sl} {st : Pl} : ev cl (.con d : IE) env st = some (d, st) := id rfl
@[simp] theorem q_ev_26 {e} {env : List Sl} {st : Pl} : ev cl (.qt e : IE) env st = ev cl e env st := id rfl
@[simp] theorem q_ev_27 {f as cs} {env : List Sl} {st : Pl} : ev cl (.calld f as cs : IE) env st = (match ag cl as env st with
    | some (ds, st1) => cl f (ds ++ cs.map fun c => some c.d) st1
    | none => none) := id rfl
@[simp] theorem q_ev_28 {m e} {env : List Sl} {st : Pl} : ev cl (.me0 m e : IE) env st = (match ev cl e env st with
    | some (x, st1) => (m0D m x).map fun d => (d, st1)
    | none => none) := id rfl
@[simp] theorem q_ev_29 {m a b} {env : List Sl} {st : Pl} : ev cl (.me1 m a b : IE) env st = (match ev cl a env st with
    | some (x, st1) => (match ev cl b env st1 with
      | some (y, st2) => (m1D m x y).map fun d => (d, st2)
      | none => none)
    | none => none) := id rfl
@[simp] theorem q_ev_30 {j cs} {env : List Sl} {st : Pl} : ev cl (.exf j cs : IE) env st = (match env[j]? with
    | some (.er c v) => if c ∈ cs then some (v, st) else none
    | _ => none) := id rfl
@[simp] theorem q_ev_31 {j cs yes} {env : List Sl} {st : Pl} : ev cl (.exi j cs yes : IE) env st = (match env[j]? with
    | some (.er c _) => if c ∈ cs then some (.bool (decide (c ∈ yes)), st) else none
    | _ => none) := id rfl
@[simp] theorem q_ev_32 {i} {env : List Sl} {st : Pl} : ev cl (.tsr i : IE) env st = (match env[i]? with
    | some (.ow ds) => (srtD ds).map fun z => (z, st)
    | _ => none) := id rfl
@[simp] theorem q_ev_33  {env : List Sl} {st : Pl} : ev cl (.stop : IE) env st = none := id rfl
@[simp] theorem q_ev_34 {a b} {env : List Sl} {st : Pl} : ev cl (.mx2 a b : IE) env st = (match ev cl a env st with
    | some (.int x, st1) => (match ev cl b env st1 with
      | some (.int y, st2) => some (.int (if y > x then y else x), st2)
      | _ => none)
    | _ => none) := id rfl
@[simp] theorem q_ev_35 {a b} {env : List Sl} {st : Pl} : ev cl (.mn2 a b : IE) env st = (match ev cl a env st with
    | some (.int x, st1) => (match ev cl b env st1 with
      | some (.int y, st2) => some (.int (if y < x then y else x), st2)
      | _ => none)
    | _ => none) := id rfl
@[simp] theorem q_ev_36 {e d} {env : List Sl} {st : Pl} : ev cl (.mxl e d : IE) env st = (match ev cl e env st with
    | some (.list xs, st1) => (match intsD xs with
      | some ns => (maxI ns d).map fun n => (.int n, st1)
      | none => none)
    | _ => none) := id rfl
@[simp] theorem q_ev_37 {e} {env : List Sl} {st : Pl} : ev cl (.srt e : IE) env st = (match ev cl e env st with
    | some (.list xs, st1) => if sortOk xs = true then some (.list (srtA xs), st1) else none
    | _ => none) := id rfl
@[simp] theorem q_ev_38 {e} {env : List Sl} {st : Pl} : ev cl (.tru e : IE) env st = (match ev cl e env st with
    | some (x, st1) => (truD x).map fun b => (.bool b, st1)
    | none => none) := id rfl
@[simp] theorem q_ev_39 {a b} {env : List Sl} {st : Pl} : ev cl (.rep a b : IE) env st = (match ev cl a env st with
    | some (.list xs, st1) => (match ev cl b env st1 with
      | some (.int k, st2) => if -(2 ^ 62) ≤ k ∧ k < 2 ^ 62 ∧ xs.length * k.toNat ≤ most then some (.list (List.replicate k.toNat xs).flatten, st2) else none
      | _ => none)
    | _ => none) := id rfl
@[simp] theorem q_ev_40 {js it cs e} {env : List Sl} {st : Pl} : ev cl (.lcm js it cs e : IE) env st = (match ei cl it env st with
    | some (ds, st1) => if ds.length ≤ most then (match lcG (lbm cl js cs e env) ds st1 with
      | some (ys, st4) => some (.list ys, st4)
      | none => none) else none
    | none => none) := id rfl
@[simp] theorem q_ev_41 {i} {env : List Sl} {st : Pl} : ev cl (.plen i : IE) env st = (match env[i]? with
    | some .pl => some (.int st.ns.length, st)
    | _ => none) := id rfl
@[simp] theorem q_ea_42  {env : List Sl} {st : Pl} : ea cl (.nil : IEs) env st = some ([], st) := id rfl
@[simp] theorem q_ea_43 {e es} {env : List Sl} {st : Pl} : ea cl (.cons e es : IEs) env st = (match ev cl e env st with
    | some (x, st1) => (match ea cl es env st1 with
      | some (xs, st2) => some (x :: xs, st2)
      | none => none)
    | none => none) := id rfl
@[simp] theorem q_ea_44 {u1 u2} {env : List Sl} {st : Pl} : ea cl (.pool u1 u2 : IEs) env st = none := id rfl
@[simp] theorem q_ag_45  {env : List Sl} {st : Pl} : ag cl (.nil : IEs) env st = some ([], st) := id rfl
@[simp] theorem q_ag_46 {e es} {env : List Sl} {st : Pl} : ag cl (.cons e es : IEs) env st = (match ev cl e env st with
    | some (x, st1) => (match ag cl es env st1 with
      | some (xs, st2) => some (some x :: xs, st2)
      | none => none)
    | none => none) := id rfl
@[simp] theorem q_ag_47 {i es} {env : List Sl} {st : Pl} : ag cl (.pool i es : IEs) env st = (match env[i]? with
    | some .pl => (match ag cl es env st with
      | some (xs, st2) => some (none :: xs, st2)
      | none => none)
    | _ => none) := id rfl
@[simp] theorem q_et_48  {env : List Sl} {st : Pl} : et cl (.nil : IEs) env st = some (true, st) := id rfl
@[simp] theorem q_et_49 {e es} {env : List Sl} {st : Pl} : et cl (.cons e es : IEs) env st = (match ev cl e env st with
    | some (.bool true, st1) => et cl es env st1
    | some (.bool false, st1) => some (false, st1)
    | _ => none) := id rfl
@[simp] theorem q_et_50 {u1 u2} {env : List Sl} {st : Pl} : et cl (.pool u1 u2 : IEs) env st = none := id rfl
@[simp] theorem q_eo_51  {env : List Sl} {st : Pl} : eo cl (.non : IO) env st = some (none, st) := id rfl
@[simp] theorem q_eo_52 {e} {env : List Sl} {st : Pl} : eo cl (.some e : IO) env st = (match ev cl e env st with
    | some (.int i, st1) => some (some i, st1)
    | _ => none) := id rfl
@[simp] theorem q_ei_53 {e} {env : List Sl} {st : Pl} : ei cl (.seq e : IT) env st = (match ev cl e env st with
    | some (x, st1) => (itS x).map fun xs => (xs, st1)
    | none => none) := id rfl
@[simp] theorem q_ei_54 {e} {env : List Sl} {st : Pl} : ei cl (.rng1 e : IT) env st = (match ev cl e env st with
    | some (.int n, st1) => (rngD 0 n).map fun xs => (xs, st1)
    | _ => none) := id rfl
@[simp] theorem q_ei_55 {a b} {env : List Sl} {st : Pl} : ei cl (.rng2 a b : IT) env st = (match ev cl a env st with
    | some (.int lo, st1) => (match ev cl b env st1 with
      | some (.int hi, st2) => (rngD lo hi).map fun xs => (xs, st2)
      | _ => none)
    | _ => none) := id rfl
@[simp] theorem q_ei_56 {a b} {env : List Sl} {st : Pl} : ei cl (.rng3 a b : IT) env st = (match ev cl a env st with
    | some (.int lo, st1) => (match ev cl b env st1 with
      | some (.int hi, st2) => (rngN lo hi).map fun xs => (xs, st2)
      | _ => none)
    | _ => none) := id rfl
@[simp] theorem q_ei_57 {e} {env : List Sl} {st : Pl} : ei cl (.enm e : IT) env st = (match ev cl e env st with
    | some (x, st1) => (itD x).map fun xs => (enD 0 xs, st1)
    | none => none) := id rfl
@[simp] theorem q_ei_58 {a b} {env : List Sl} {st : Pl} : ei cl (.zp a b : IT) env st = (match ev cl a env st with
    | some (x, st1) => (match ev cl b env st1 with
      | some (y, st2) => (match itD x with
        | some xs => (itD y).map fun ys => (zpD xs ys, st2)
        | none => none)
      | none => none)
    | none => none) := id rfl
@[simp] theorem q_xv_59 {f as} {env : List Sl} {st : Pl} : xv cl (.call f as : IE) env st = (match ag cl as env st with
    | some (ds, st1) => (match cl (bang f) ds st1 with
      | some (d, st2) => (erOf d).map fun er => (er, st2)
      | none => none)
    | none => none) := id rfl
@[simp] theorem q_xv_60 {f as cs} {env : List Sl} {st : Pl} : xv cl (.calld f as cs : IE) env st = (match ag cl as env st with
    | some (ds, st1) => (match cl (bang f) (ds ++ cs.map fun c => some c.d) st1 with
      | some (d, st2) => (erOf d).map fun er => (er, st2)
      | none => none)
    | none => none) := id rfl
@[simp] theorem q_xv_61 {u1 a b} {env : List Sl} {st : Pl} : xv cl (.bin u1 a b : IE) env st = (match xv cl a env st with
    | some r => some r
    | none => (match ev cl a env st with
      | some (_, st1) => xv cl b env st1
      | none => none)) := id rfl
@[simp] theorem q_xv_62 {u1 a b} {env : List Sl} {st : Pl} : xv cl (.cmp u1 a b : IE) env st = (match xv cl a env st with
    | some r => some r
    | none => (match ev cl a env st with
      | some (_, st1) => xv cl b env st1
      | none => none)) := id rfl
@[simp] theorem q_xv_63 {a} {env : List Sl} {st : Pl} : xv cl (.not a : IE) env st = xv cl a env st := id rfl
@[simp] theorem q_xv_64 {is e} {env : List Sl} {st : Pl} : xv cl (.lent is e : IE) env st = xv cl e (frzE env is) st := id rfl
@[simp] theorem q_evS_65 {i e} {env : List Sl} {st : Pl} : evS cl (.set i e : IS) env st = (match ev cl e env st with
    | some (x, st1) => some (.nx (env.set i (.im x)) st1)
    | none => none) := id rfl
@[simp] theorem q_evS_66 {i e} {env : List Sl} {st : Pl} : evS cl (.own i e : IS) env st = (match ev cl e env st with
    | some (.list xs, st1) => some (.nx (env.set i (.ow xs)) st1)
    | _ => none) := id rfl
@[simp] theorem q_evS_67 {js e} {env : List Sl} {st : Pl} : evS cl (.unp js e : IS) env st = (match ev cl e env st with
    | some (x, st1) => (sgD (.many js) x env).map fun env1 => .nx env1 st1
    | none => none) := id rfl
@[simp] theorem q_evS_68 {i e} {env : List Sl} {st : Pl} : evS cl (.app i e : IS) env st = (match ev cl e env st with
    | some (x, st1) => (match env[i]? with
      | some (.ow ds) => if ds.length < most then some (.nx (env.set i (.ow (ds ++ [x]))) st1) else none
      | _ => none)
    | none => none) := id rfl
@[simp] theorem q_evS_69 {i e} {env : List Sl} {st : Pl} : evS cl (.ext i e : IS) env st = (match ev cl e env st with
    | some (.list xs, st1) => (match env[i]? with
        | some (.ow ds) => if ds.length + xs.length ≤ most then some (.nx (env.set i (.ow (ds ++ xs))) st1) else none
        | _ => none)
    | _ => none) := id rfl
@[simp] theorem q_evS_70 {i k e} {env : List Sl} {st : Pl} : evS cl (.pput i k e : IS) env st = (match ev cl e env st with
    | some (.int n, st1) => (match env[i]? with
      | some .pl => (st1.put n k).map fun st2 => .nx env st2
      | _ => none)
    | _ => none) := id rfl
@[simp] theorem q_evS_71 {c a b} {env : List Sl} {st : Pl} : evS cl (.iff c a b : IS) env st = (match ev cl c env st with
    | some (.bool true, st1) => evSs cl a env st1
    | some (.bool false, st1) => evSs cl b env st1
    | _ => none) := id rfl
@[simp] theorem q_evS_72 {j it b} {env : List Sl} {st : Pl} : evS cl (.forr j it b : IS) env st = (match ei cl it env st with
    | some (ds, st1) => forG (fb cl j b) ds env st1
    | none => none) := id rfl
@[simp] theorem q_evS_73 {e} {env : List Sl} {st : Pl} : evS cl (.ret e : IS) env st = (match ev cl e env st with
    | some (x, st1) => some (.rt x st1)
    | none => none) := id rfl
@[simp] theorem q_evS_74  {env : List Sl} {st : Pl} : evS cl (.retN : IS) env st = some (.rt .none st) := id rfl
@[simp] theorem q_evS_75 {e} {env : List Sl} {st : Pl} : evS cl (.retf e : IS) env st = (match ev cl e env st with
    | some (.list xs, st1) => some (.rt (.list xs) st1)
    | _ => none) := id rfl
@[simp] theorem q_evS_76 {f as i} {env : List Sl} {st : Pl} : evS cl (.dropc f as i : IS) env st = (match ag cl as env st with
    | some (ds, st1) => (match env[i]? with
      | some (.ow xs) => (match cl (ioN f) (ds ++ [some (.list xs)]) st1 with
        | some (.list out, st2) => some (.nx (env.set i (.ow out)) st2)
        | _ => none)
      | _ => none)
    | none => none) := id rfl
@[simp] theorem q_evS_77 {j f as} {env : List Sl} {st : Pl} : evS cl (.setf j f as : IS) env st = (match ag cl as env st with
    | some (ds, st1) => (match cl f ds st1 with
      | some (.none, st2) => some (.nx (env.set j (.im .none)) st2)
      | some (.list xs, st2) => some (.nx (env.set j (.ow xs)) st2)
      | _ => none)
    | none => none) := id rfl
@[simp] theorem q_evS_78 {i k e} {env : List Sl} {st : Pl} : evS cl (.oset i k e : IS) env st = (match ev cl e env st with
    | some (x, st1) => (match env[i]? with
      | some (.ow ds) => if k < ds.length then some (.nx (env.set i (.ow (ds.set k x))) st1) else none
      | _ => none)
    | none => none) := id rfl
@[simp] theorem q_evS_79 {e} {env : List Sl} {st : Pl} : evS cl (.drop e : IS) env st = (match ev cl e env st with
    | some (_, st1) => some (.nx env st1)
    | none => none) := id rfl
@[simp] theorem q_evS_80  {env : List Sl} {st : Pl} : evS cl (.brk : IS) env st = some (.bk env st) := id rfl
@[simp] theorem q_evS_81  {env : List Sl} {st : Pl} : evS cl (.cnt : IS) env st = some (.ct env st) := id rfl
@[simp] theorem q_evS_82 {is s} {env : List Sl} {st : Pl} : evS cl (.frz is s : IS) env st = evS cl s (frzE env is) st := id rfl
@[simp] theorem q_evS_83 {i o e} {env : List Sl} {st : Pl} : evS cl (.aug i o e : IS) env st = (match env[i]? with
    | some (.im (.int m)) => (match ev cl e env st with
      | some (.int n, st1) => (match binD o (.int m) (.int n) with
        | some d => some (.nx (env.set i (.im d)) st1)
        | none => none)
      | _ => none)
    | _ => none) := id rfl
@[simp] theorem q_evS_84  {env : List Sl} {st : Pl} : evS cl (.stop : IS) env st = none := id rfl
@[simp] theorem q_evS_85 {u1 u2} {env : List Sl} {st : Pl} : evS cl (.rse u1 u2 : IS) env st = none := id rfl
@[simp] theorem q_evS_86 {s} {env : List Sl} {st : Pl} : evS cl (.calm s : IS) env st = evS cl s env st := id rfl
@[simp] theorem q_evS_87 {c} {env : List Sl} {st : Pl} : evS cl (.whl c : IS) env st = (match ev cl c env st with
    | some (.bool false, st1) => some (.nx env st1)
    | _ => none) := id rfl
@[simp] theorem q_evS_88 {is j e} {env : List Sl} {st : Pl} : evS cl (.ownl is j e : IS) env st = (match ev cl e (frzE env is) st with
    | some (.list xs, st1) => if xs.all flatD = true then some (.nx (env.set j (.ow xs)) st1) else none
    | _ => none) := id rfl
@[simp] theorem q_evS_89 {b cs j u} {env : List Sl} {st : Pl} : evS cl (.tri b cs j u : IS) env st = (match evSs cl b env st with
    | some o => some o
    | none => (match xvSs cl b env st with
      | some ((c, v), env1, st1) => if c ∈ cs then (match evSs cl u (env1.set j (.er c v)) st1 with
          | some o => some (o.un j)
          | none => none) else none
      | none => none)) := id rfl
@[simp] theorem q_evSs_90  {env : List Sl} {st : Pl} : evSs cl (.nil : ISs) env st = some (.nx env st) := id rfl
@[simp] theorem q_evSs_91 {s r} {env : List Sl} {st : Pl} : evSs cl (.cons s r : ISs) env st = (match evS cl s env st with
    | some (.nx env1 st1) => evSs cl r env1 st1
    | some o => some o
    | none => none) := id rfl
@[simp] theorem q_xvS_92 {u1 e} {env : List Sl} {st : Pl} : xvS cl (.set u1 e : IS) env st = (xv cl e env st).map fun r => (r.1, env, r.2) := id rfl
@[simp] theorem q_xvS_93 {e} {env : List Sl} {st : Pl} : xvS cl (.ret e : IS) env st = (xv cl e env st).map fun r => (r.1, env, r.2) := id rfl
@[simp] theorem q_xvS_94 {e} {env : List Sl} {st : Pl} : xvS cl (.drop e : IS) env st = (xv cl e env st).map fun r => (r.1, env, r.2) := id rfl
@[simp] theorem q_xvS_95 {i e} {env : List Sl} {st : Pl} : xvS cl (.app i e : IS) env st = (match env[i]? with
    | some (.ow _) => (xv cl e env st).map fun r => (r.1, env, r.2)
    | _ => none) := id rfl
@[simp] theorem q_xvS_96 {c e} {env : List Sl} {st : Pl} : xvS cl (.rse c e : IS) env st = (match ev cl e env st with
    | some (v, st1) => if errOk v = true then some ((c, v), env, st1) else none
    | none => none) := id rfl
@[simp] theorem q_xvS_97 {c a b} {env : List Sl} {st : Pl} : xvS cl (.iff c a b : IS) env st = (match ev cl c env st with
    | some (.bool true, st1) => xvSs cl a env st1
    | some (.bool false, st1) => xvSs cl b env st1
    | _ => none) := id rfl
@[simp] theorem q_xvS_98 {b cs u1 u2} {env : List Sl} {st : Pl} : xvS cl (.tri b cs u1 u2 : IS) env st = (match xvSs cl b env st with
    | some r => if r.1.1 ∈ cs then none else some r
    | none => none) := id rfl
@[simp] theorem q_xvSs_99  {env : List Sl} {st : Pl} : xvSs cl (.nil : ISs) env st = none := id rfl
@[simp] theorem q_xvSs_100 {s r} {env : List Sl} {st : Pl} : xvSs cl (.cons s r : ISs) env st = (match xvS cl s env st with
    | some x => some x
    | none => (match evS cl s env st with
      | some (.nx env1 st1) => xvSs cl r env1 st1
      | _ => none)) := id rfl
@[simp] theorem eqv_int (i j : Int) : PyData.eqv (.int i) (.int j) = decide (i = j) := by simp [PyData.eqv]; rfl
@[simp] theorem eqv_str (s t : Str) : PyData.eqv (.str s) (.str t) = decide (s = t) := by simp [PyData.eqv]; rfl
end Ip

set_option Elab.async false
set_option linter.all false
set_option maxRecDepth 100000
set_option maxHeartbeats 4000000
namespace Cm
open PySem Ip
/-! Helpers that several texts share, in short. -/
def I_law_mixed : IF := ⟨6, (.cons (.set 3 (.bin .mod (.bi .int (.cons (.bin .add (.bin .add (.bin .mul (.var 0) (.cst (.int 48271))) (.bin .mul (.var 1) (.cst (.int 69621)))) (.cst (.int 11))) .nil)) (.cst (.int 2147483647))))
  (.cons (.set 4 (.bin .mod (.bi .int (.cons (.bin .add (.bin .add (.bin .mul (.var 3) (.cst (.int 40692))) (.bin .mul (.var 0) (.cst (.int 16807)))) (.bin .mul (.var 1) (.cst (.int 30269)))) .nil)) (.cst (.int 2147483399))))
  (.cons (.set 5 (.bin .mod (.bi .int (.cons (.bin .add (.bin .mul (.var 4) (.cst (.int 39373))) (.bin .fdv (.var 3) (.cst (.int 7)))) .nil)) (.cst (.int 1000000007))))
  (.cons (.ret (.bin .mod (.bi .int (.cons (.var 5) .nil)) (.var 2)))
  .nil))))⟩
def I_law_draw : IF := ⟨4, (.cons (.iff (.cmp .gt (.pix 0 2) (.cst (.int 0))) (.cons (.set 2 (.bin .mod (.bi .int (.cons (.pix 0 2) .nil)) (.var 1)))
  (.cons (.pput 0 2 (.bin .fdv (.pix 0 2) (.var 1)))
  (.cons (.ret (.var 2))
  .nil))) .nil)
  (.cons (.iff (.cmp .gt (.pix 0 4) (.cst (.int 0))) (.cons (.pput 0 4 (.bin .sub (.pix 0 4) (.cst (.int 1))))
  (.cons (.ret (.call "_law_mixed" (.cons (.pix 0 3) (.cons (.pix 0 4) (.cons (.var 1) .nil)))))
  .nil)) .nil)
  (.cons (.iff (.cmp .ge (.pix 0 1) (.plen 0)) (.cons (.ret (.cst (.int 0)))
  .nil) .nil)
  (.cons (.set 3 (.pcel 0))
  (.cons (.pput 0 1 (.bin .add (.pix 0 1) (.cst (.int 1))))
  (.cons (.iff (.cmp .lt (.var 3) (.cst (.int 0))) (.cons (.set 3 (.bin .sub (.neg (.cst (.int 1))) (.var 3)))
  .nil) .nil)
  (.cons (.iff (.cmp .ge (.var 3) (.bin .pow (.cst (.int 10)) (.cst (.int 18)))) (.cons (.pput 0 2 (.bin .fdv (.var 3) (.var 1)))
  (.cons (.ret (.bin .mod (.bi .int (.cons (.var 3) .nil)) (.var 1)))
  .nil)) .nil)
  (.cons (.pput 0 3 (.var 3))
  (.cons (.pput 0 4 (.cst (.int 7)))
  (.cons (.ret (.call "_law_mixed" (.cons (.var 3) (.cons (.cst (.int 7)) (.cons (.var 1) .nil)))))
  .nil))))))))))⟩
def I_law_kinds : IF := ⟨0, (.cons (.ret (.lst (.cons (.cst (.str "any")) (.cons (.cst (.str "num")) (.cons (.cst (.str "nat")) (.cons (.cst (.str "small")) (.cons (.cst (.str "digit")) (.cons (.cst (.str "bit")) (.cons (.cst (.str "word")) .nil)))))))))
  .nil)⟩
def I_law_word : IF := ⟨6, (.cons (.set 4 (.ix (.var 1) (.call "_law_draw" (.pool 0 (.cons (.bi .len (.cons (.var 1) .nil)) .nil)))))
  (.cons (.forr (.one 5) (.rng1 (.var 3)) (.cons (.set 4 (.bin .add (.var 4) (.ix (.var 2) (.call "_law_draw" (.pool 0 (.cons (.bi .len (.cons (.var 2) .nil)) .nil))))))
  .nil))
  (.cons (.ret (.var 4))
  .nil)))⟩
def I_law_fresh : IF := ⟨6, (.cons (.set 2 (.cst (.str "abcdefghijklmnopqrstuvwxyz")))
  (.cons (.set 3 (.call "_law_draw" (.pool 0 (.cons (.cst (.int 3)) .nil))))
  (.cons (.iff (.cmp .eq (.var 3) (.cst (.int 2))) (.cons (.set 3 (.call "_law_draw" (.pool 0 (.cons (.cst (.int 6)) .nil))))
  .nil) .nil)
  (.cons (.set 4 (.call "_law_word" (.pool 0 (.cons (.var 2) (.cons (.bin .add (.var 2) (.cst (.str "0123456789"))) (.cons (.var 3) .nil))))))
  (.cons (.forr (.one 5) (.rng1 (.cst (.int 60))) (.cons (.iff (.and (.cmp .notin (.var 4) (.var 1)) (.and (.cmp .notin (.var 4) (.call "_law_kinds" .nil)) (.cmp .notin (.var 4) (.lst (.cons (.cst (.str "lent")) (.cons (.cst (.str "main")) .nil)))))) (.cons (.ret (.var 4))
  .nil) .nil)
  (.cons (.set 4 (.bin .add (.sl (.var 4) .non (.some (.cst (.int 4)))) (.bi .str (.cons (.var 5) .nil))))
  .nil)))
  (.cons (.ret (.var 4))
  .nil))))))⟩
def I_law_literal : IF := ⟨3, (.cons (.set 1 (.call "_law_draw" (.pool 0 (.cons (.cst (.int 5)) .nil))))
  (.cons (.iff (.cmp .eq (.var 1) (.cst (.int 0))) (.cons (.ret (.call "_law_draw" (.pool 0 (.cons (.cst (.int 2)) .nil))))
  .nil) .nil)
  (.cons (.iff (.cmp .eq (.var 1) (.cst (.int 1))) (.cons (.ret (.bin .sub (.call "_law_draw" (.pool 0 (.cons (.cst (.int 199)) .nil))) (.cst (.int 99))))
  .nil) .nil)
  (.cons (.iff (.cmp .eq (.var 1) (.cst (.int 2))) (.cons (.ret (.ix (.lst (.cons (.neg (.cst (.int 10))) (.cons (.neg (.cst (.int 9))) (.cons (.neg (.cst (.int 1))) (.cons (.cst (.int 2)) (.cons (.cst (.int 9)) (.cons (.cst (.int 10)) .nil))))))) (.call "_law_draw" (.pool 0 (.cons (.cst (.int 6)) .nil)))))
  .nil) .nil)
  (.cons (.iff (.cmp .eq (.var 1) (.cst (.int 3))) (.cons (.ret (.call "_law_draw" (.pool 0 (.cons (.cst (.int 10)) .nil))))
  .nil) .nil)
  (.cons (.set 2 (.cst (.str "abcdefghijklmnopqrstuvwxyz")))
  (.cons (.ret (.call "_law_word" (.pool 0 (.cons (.var 2) (.cons (.var 2) (.cons (.call "_law_draw" (.pool 0 (.cons (.cst (.int 6)) .nil))) .nil))))))
  .nil)))))))⟩
def I_law_kind : IF := ⟨1, (.cons (.iff (.cmp .eq (.call "_law_draw" (.pool 0 (.cons (.cst (.int 2)) .nil))) (.cst (.int 0))) (.cons (.ret (.cst .non))
  .nil) .nil)
  (.cons (.ret (.ix (.call "_law_kinds" .nil) (.call "_law_draw" (.pool 0 (.cons (.cst (.int 7)) .nil)))))
  .nil))⟩
def I_law_is_int : IF := ⟨1, (.cons (.ret (.and (.isi .int (.var 0)) (.not (.isi .bool (.var 0)))))
  .nil)⟩
def I_law_same : IF := ⟨3, (.cons (.iff (.cmp .isN (.var 1) (.cst .non)) (.cons (.ret (.cmp .isN (.var 0) (.cst .non)))
  .nil) .nil)
  (.cons (.iff (.isi .bool (.var 1)) (.cons (.ret (.and (.isi .bool (.var 0)) (.cmp .eq (.var 0) (.var 1))))
  .nil) .nil)
  (.cons (.iff (.isi .int (.var 1)) (.cons (.ret (.and (.call "_law_is_int" (.cons (.var 0) .nil)) (.cmp .eq (.var 0) (.var 1))))
  .nil) .nil)
  (.cons (.iff (.isi .str (.var 1)) (.cons (.ret (.and (.isi .str (.var 0)) (.cmp .eq (.var 0) (.var 1))))
  .nil) .nil)
  (.cons (.iff (.and (.isi .list (.var 1)) (.not (.isi .list (.var 0)))) (.cons (.ret (.cst (.bl false)))
  .nil) .nil)
  (.cons (.iff (.and (.isi .tuple (.var 1)) (.not (.isi .tuple (.var 0)))) (.cons (.ret (.cst (.bl false)))
  .nil) .nil)
  (.cons (.iff (.cmp .ne (.bi .len (.cons (.var 0) .nil)) (.bi .len (.cons (.var 1) .nil))) (.cons (.ret (.cst (.bl false)))
  .nil) .nil)
  (.cons (.forr (.one 2) (.rng1 (.bi .len (.cons (.var 1) .nil))) (.cons (.iff (.not (.call "_law_same" (.cons (.ix (.var 0) (.var 2)) (.cons (.ix (.var 1) (.var 2)) .nil)))) (.cons (.ret (.cst (.bl false)))
  .nil) .nil)
  .nil))
  (.cons (.ret (.cst (.bl true)))
  .nil)))))))))⟩
end Cm

set_option Elab.async false
set_option linter.all false
set_option maxRecDepth 100000
set_option maxHeartbeats 4000000
namespace Cm
open PySem Ip L2
/-! What the helpers come to. -/
structure Pok (s : Pl) : Prop where
  i0 : 0 ≤ s.i
  c0 : 0 ≤ s.c
  c1 : s.c < 10 ^ 18
  l1 : s.l ≤ 7
def MixedOk (cl : Cl) : Prop := ∀ (c t lim : Int) (st : Pl), 0 ≤ c → c < 10 ^ 18 → 0 ≤ t → t ≤ 7 → 0 < lim → ∃ r, cl "_law_mixed" [some (.int c), some (.int t), some (.int lim)] st = some (.int r, st) ∧ 0 ≤ r ∧ r < lim
def DrawOk (cl : Cl) : Prop := ∀ (lim : Int) (st : Pl), Pok st → 0 < lim → lim < 1073741824 → ∃ r st', cl "_law_draw" [none, some (.int lim)] st = some (.int r, st') ∧ 0 ≤ r ∧ r < lim ∧ Pok st'
theorem mixed_run (cl : Cl) (c t lim : Int) (st : Pl) (h0 : 0 ≤ c) (h1 : c < 10 ^ 18) (h2 : 0 ≤ t) (h3 : t ≤ 7) (h4 : 0 < lim) : ∃ r, runI 3 cl I_law_mixed [some (.int c), some (.int t), some (.int lim)] st = some (.int r, st) ∧ 0 ≤ r ∧ r < lim := by
  have g1 : c.natAbs < 2 ^ 64 := by omega
  have g2 : t.natAbs < 2 ^ 64 := by omega
  simp [runI, runF, I_law_mixed, evSs, evS, ev, ea, slOf, binD, biD, Cst.d, g1, g2, h4]
  exact ⟨Int.emod_nonneg _ (by omega), Int.emod_lt_of_pos _ h4⟩
theorem draw_run {cl : Cl} (hm : MixedOk cl) (lim : Int) (st : Pl) (h : Pok st) (h0 : 0 < lim) (h1 : lim < 1073741824) : ∃ r st', runI 2 cl I_law_draw [none, some (.int lim)] st = some (.int r, st') ∧ 0 ≤ r ∧ r < lim ∧ Pok st' := by
  obtain ⟨ns, i, r, c, l⟩ := st
  obtain ⟨i0, c0, c1, l1⟩ := h
  simp only at i0 c0 c1 l1
  by_cases hr : 0 < r
  · refine ⟨r % lim, ⟨ns, i, r / lim, c, l⟩, ?_, Int.emod_nonneg _ (by omega), Int.emod_lt_of_pos _ h0, i0, c0, c1, l1⟩
    simp [runI, runF, I_law_draw, evSs, evS, ev, ea, ag, slOf, binD, biD, cmpD, Cst.d, Pl.at_, Pl.put, hr, h0, h1]
  · by_cases hl : 0 < l
    · obtain ⟨q, e, q0, q1⟩ := hm c (l - 1) lim ⟨ns, i, r, c, l - 1⟩ c0 c1 (by omega) (by omega) h0
      refine ⟨q, ⟨ns, i, r, c, l - 1⟩, ?_, q0, q1, i0, c0, c1, by show l - 1 ≤ 7; omega⟩
      simp [runI, runF, I_law_draw, evSs, evS, ev, ea, ag, slOf, binD, biD, cmpD, Cst.d, Pl.at_, Pl.put, hr, hl, h0, h1, e]
    · by_cases hi : (ns.length : Int) ≤ i
      · refine ⟨0, ⟨ns, i, r, c, l⟩, ?_, Int.le_refl 0, h0, i0, c0, c1, l1⟩
        simp [runI, runF, I_law_draw, evSs, evS, ev, ea, ag, slOf, binD, biD, cmpD, Cst.d, Pl.at_, Pl.put, hr, hl, h0, h1, hi]
      · have hlt : i.toNat < ns.length := by omega
        have ha : atI ns i = some ns[i.toNat] := by
          unfold atI ixN
          rw [if_pos i0, if_pos (by omega)]
          show ns[i.toNat]? = _
          exact List.getElem?_eq_getElem hlt
        generalize hx : ns[i.toNat] = x at ha
        have key : ∀ y : Int, 0 ≤ y → (if x < 0 then -1 - x else x) = y → ∃ r' st', runI 2 cl I_law_draw [none, some (.int lim)] ⟨ns, i, r, c, l⟩ = some (.int r', st') ∧ 0 ≤ r' ∧ r' < lim ∧ Pok st' := fun y y0 ey => by
          by_cases hy : (10 : Int) ^ 18 ≤ y
          · by_cases hn : x < 0
            · rw [if_pos hn] at ey
              have hy2 : (1000000000000000000 : Int) ≤ -1 - x := by omega
              refine ⟨(-1 - x) % lim, ⟨ns, i + 1, (-1 - x) / lim, c, l⟩, ?_, Int.emod_nonneg _ (by omega), Int.emod_lt_of_pos _ h0, by show 0 ≤ i + 1; omega, c0, c1, l1⟩
              simp [runI, runF, I_law_draw, evSs, evS, ev, ea, ag, slOf, binD, biD, cmpD, Cst.d, Pl.at_, Pl.put, hr, hl, h0, h1, hi, ha, hn, hy2]
            · rw [if_neg hn] at ey
              have hy2 : (1000000000000000000 : Int) ≤ x := by omega
              refine ⟨x % lim, ⟨ns, i + 1, x / lim, c, l⟩, ?_, Int.emod_nonneg _ (by omega), Int.emod_lt_of_pos _ h0, by show 0 ≤ i + 1; omega, c0, c1, l1⟩
              simp [runI, runF, I_law_draw, evSs, evS, ev, ea, ag, slOf, binD, biD, cmpD, Cst.d, Pl.at_, Pl.put, hr, hl, h0, h1, hi, ha, hn, hy2]
          · obtain ⟨q, e, q0, q1⟩ := hm y 7 lim ⟨ns, i + 1, r, y, 7⟩ y0 (by omega) (by omega) (by omega) h0
            by_cases hn : x < 0
            · rw [if_pos hn] at ey
              subst ey
              have hy2 : ¬ (1000000000000000000 : Int) ≤ -1 - x := by omega
              refine ⟨q, ⟨ns, i + 1, r, -1 - x, 7⟩, by simp [runI, runF, I_law_draw, evSs, evS, ev, ea, ag, slOf, binD, biD, cmpD, Cst.d, Pl.at_, Pl.put, hr, hl, h0, h1, hi, ha, hn, hy2, e], q0, q1, by show 0 ≤ i + 1; omega, y0, by show -1 - x < 10 ^ 18; omega, by show (7 : Int) ≤ 7; omega⟩
            · rw [if_neg hn] at ey
              subst ey
              have hy2 : ¬ (1000000000000000000 : Int) ≤ x := by omega
              refine ⟨q, ⟨ns, i + 1, r, x, 7⟩, by simp [runI, runF, I_law_draw, evSs, evS, ev, ea, ag, slOf, binD, biD, cmpD, Cst.d, Pl.at_, Pl.put, hr, hl, h0, h1, hi, ha, hn, hy2, e], q0, q1, by show 0 ≤ i + 1; omega, y0, by show x < 10 ^ 18; omega, by show (7 : Int) ≤ 7; omega⟩
        by_cases hn : x < 0
        · exact key (-1 - x) (by omega) (if_pos hn)
        · exact key x (by omega) (if_neg hn)
end Cm

set_option Elab.async false
set_option linter.all false
set_option maxRecDepth 100000
set_option maxHeartbeats 4000000
namespace Cm
open PySem Ip L2
/-! ### texts -/
theorem char_inj : ∀ {a b : List Char}, a.map Char.toNat = b.map Char.toNat → a = b
  | [], [], _ => rfl
  | x :: a, y :: b, h => by
    simp only [List.map_cons, List.cons.injEq] at h
    have e : x = y := Char.ext (by
      have h1 : x.val.toNat = y.val.toNat := h.1
      exact UInt32.toNat_inj.mp h1)
    rw [e, char_inj h.2]
  | [], _ :: _, h => by simp at h
  | _ :: _, [], h => by simp at h
@[simp] theorem ofString_inj (a b : String) : (Str.ofString a = Str.ofString b) ↔ a = b := by
  constructor
  · intro h
    rw [Str.ofString_eq_toList, Str.ofString_eq_toList] at h
    have h2 : a.toList.map Char.toNat = b.toList.map Char.toNat := by simpa using congrArg (fun s => s.cps.toList) h
    have h3 := char_inj h2
    rw [← String.ofList_toList (s := a), ← String.ofList_toList (s := b), h3]
  · rintro rfl
    rfl
theorem ofString_len (a : String) : (Str.ofString a).length = a.toList.length := by
  rw [Str.ofString_eq_toList]
  show (List.map Char.toNat a.toList).toArray.size = _
  simp
theorem str_len_add (a b : Str) : (a ++ b).length = a.length + b.length := by
  show (a.cps ++ b.cps).size = _
  rw [Array.size_append]
  rfl
example : (Str.ofString "abc").length = 3 := by rw [ofString_len]; decide
/-! ### loops -/
theorem forG_or {f : D → List Sl → Pl → Option Out} (I : Nat → List Sl → Pl → Prop) (R : D → Pl → Prop) : ∀ (ds : List D) (n : Nat) (env : List Sl) (st : Pl), I n env st →
    (∀ i d env st, ds[i]? = some d → I (n + i) env st → (∃ env' st', (f d env st = some (.nx env' st') ∨ f d env st = some (.ct env' st')) ∧ I (n + i + 1) env' st') ∨ (∃ v st', f d env st = some (.rt v st') ∧ R v st')) →
    (∃ env' st', forG f ds env st = some (.nx env' st') ∧ I (n + ds.length) env' st') ∨ (∃ v st', forG f ds env st = some (.rt v st') ∧ R v st')
  | [], n, env, st, h, _ => .inl ⟨env, st, rfl, h⟩
  | d :: ds, n, env, st, h, hs => by
    rcases hs 0 d env st rfl h with ⟨env1, st1, e, h1⟩ | ⟨v, st1, e, h1⟩
    · have ih := forG_or I R ds (n + 1) env1 st1 h1 fun i d' env' st' hi h' => by
        have h2 := hs (i + 1) d' env' st' (by simpa using hi) (by
          have e2 : n + (i + 1) = n + 1 + i := by omega
          rw [e2]
          exact h')
        have e2 : n + (i + 1) + 1 = n + 1 + i + 1 := by omega
        rw [e2] at h2
        exact h2
      have e2 : n + (d :: ds).length = n + 1 + ds.length := by simp; omega
      rw [e2]
      rcases e with e | e
      · unfold forG
        rw [e]
        exact ih
      · unfold forG
        rw [e]
        exact ih
    · refine .inr ⟨v, st1, ?_, h1⟩
      unfold forG
      rw [e]
theorem forG_nx {f : D → List Sl → Pl → Option Out} (I : Nat → List Sl → Pl → Prop) (ds : List D) (env : List Sl) (st : Pl) (h : I 0 env st)
    (hs : ∀ i d env st, ds[i]? = some d → I i env st → ∃ env' st', f d env st = some (.nx env' st') ∧ I (i + 1) env' st') : ∃ env' st', forG f ds env st = some (.nx env' st') ∧ I ds.length env' st' := by
  have h1 := forG_or (f := f) I (fun _ _ => False) ds 0 env st h fun i d env st hi h' => by
    rw [Nat.zero_add] at h' ⊢
    obtain ⟨env', st', e, h2⟩ := hs i d env st hi h'
    exact .inl ⟨env', st', .inl e, h2⟩
  rcases h1 with ⟨env', st', e, h2⟩ | ⟨_, _, _, h2⟩
  · rw [Nat.zero_add] at h2
    exact ⟨env', st', e, h2⟩
  · exact h2.elim
theorem lcG_pure {f : D → Pl → Option (Option D × Pl)} {g : D → Option D} {st : Pl} : ∀ {ds : List D}, (∀ d ∈ ds, f d st = some (g d, st)) → lcG f ds st = some (ds.filterMap g, st)
  | [], _ => rfl
  | d :: ds, h => by
    unfold lcG
    rw [h d List.mem_cons_self]
    have ih := lcG_pure (f := f) (g := g) (st := st) fun x hx => h x (List.mem_cons_of_mem _ hx)
    rw [List.filterMap_cons]
    cases g d with
    | none => exact ih
    | some y =>
      simp only [ih]
theorem lcG_all {f : D → Pl → Option (Option D × Pl)} (J : Pl → Prop) (P : D → Prop) : ∀ (ds : List D) (st : Pl), J st → (∀ d ∈ ds, ∀ st, J st → ∃ y st', f d st = some (some y, st') ∧ J st' ∧ P y) →
    ∃ ys st', lcG f ds st = some (ys, st') ∧ J st' ∧ (∀ y ∈ ys, P y) ∧ ys.length = ds.length
  | [], st, h, _ => ⟨[], st, rfl, h, (fun y hy => by cases hy), rfl⟩
  | d :: ds, st, h, hs => by
    obtain ⟨y, st1, e, h1, hp⟩ := hs d List.mem_cons_self st h
    obtain ⟨ys, st2, e2, h2, hp2, hl⟩ := lcG_all J P ds st1 h1 fun x hx => hs x (List.mem_cons_of_mem _ hx)
    refine ⟨y :: ys, st2, ?_, h2, fun z hz => ?_, congrArg Nat.succ hl⟩
    · unfold lcG
      rw [e]
      simp only [e2]
    · rcases List.mem_cons.mp hz with rfl | hz
      · exact hp
      · exact hp2 z hz
theorem rngD_nat {n : Int} (h0 : 0 ≤ n) (h1 : n ≤ 100000) : rngD 0 n = some ((List.range n.toNat).map fun (k : Nat) => PyData.int (k : Int)) := by
  unfold rngD
  rw [if_pos (by omega), Int.sub_zero]
  simp
/-! ### kinds, words, names -/
def kindsD : List D := [.str "any", .str "num", .str "nat", .str "small", .str "digit", .str "bit", .str "word"]
def KindsOk (cl : Cl) : Prop := ∀ st, cl "_law_kinds" [] st = some (.list kindsD, st)
theorem kinds_run (cl : Cl) (st : Pl) : runI 0 cl I_law_kinds [] st = some (.list kindsD, st) := by
  simp [runI, runF, I_law_kinds, evSs, evS, ev, ea, most, Cst.d, kindsD]
/-- a text whose first sign is one of a's, the others of b's -/
def WordOf (a b : Str) (n : Nat) (w : Str) : Prop := ∃ c l, w = ⟨(c :: l).toArray⟩ ∧ c ∈ a.cps.toList ∧ (∀ x ∈ l, x ∈ b.cps.toList) ∧ l.length = n
def WordOk (cl : Cl) : Prop := ∀ (a b : Str) (m : Int) (st : Pl), Pok st → 1 ≤ a.length → a.length ≤ 1000 → 1 ≤ b.length → b.length ≤ 1000 → 0 ≤ m → m ≤ 100 → ∃ w st', cl "_law_word" [none, some (.str a), some (.str b), some (.int m)] st = some (.str w, st') ∧ WordOf a b m.toNat w ∧ Pok st'
theorem atI_of {α : Type} {xs : List α} {r : Int} (h0 : 0 ≤ r) (h1 : r < xs.length) : atI xs r = some (xs[r.toNat]'(by omega)) := by
  unfold atI ixN
  rw [if_pos h0, if_pos h1]
  exact List.getElem?_eq_getElem _
theorem WordOf.len {a b : Str} {n : Nat} {w : Str} (h : WordOf a b n w) : w.length = n + 1 := by
  obtain ⟨c, l, rfl, _, _, rfl⟩ := h
  rfl
theorem word_run {cl : Cl} (hd : DrawOk cl) (a b : Str) (m : Int) (st : Pl) (h : Pok st) (a1 : 1 ≤ a.length) (a2 : a.length ≤ 1000) (b1 : 1 ≤ b.length) (b2 : b.length ≤ 1000) (m0 : 0 ≤ m) (m1 : m ≤ 100) :
    ∃ w st', runI 4 cl I_law_word [none, some (.str a), some (.str b), some (.int m)] st = some (.str w, st') ∧ WordOf a b m.toNat w ∧ Pok st' := by
  have ha : a.length ≤ most := Nat.le_trans a2 (by decide)
  have hb : b.length ≤ most := Nat.le_trans b2 (by decide)
  have la : a.cps.toList.length = a.length := Array.length_toList
  have lb : b.cps.toList.length = b.length := Array.length_toList
  obtain ⟨r, st1, e1, r0, r1, h1⟩ := hd a.length st h (by omega) (by omega)
  have hat := atI_of (xs := a.cps.toList) r0 (by rw [la]; exact r1)
  generalize hc : a.cps.toList[r.toNat]'_ = c at hat
  have hca : c ∈ a.cps.toList := by rw [← hc]; exact List.getElem_mem _
  have hrg := rngD_nat m0 (by omega)
  obtain ⟨env', st2, e2, w, x, rfl, e4, e5⟩ := forG_nx (f := fb cl (.one 5) (.cons (.set 4 (.bin .add (.var 4) (.ix (.var 2) (.call "_law_draw" (.pool 0 (.cons (.bi .len (.cons (.var 2) .nil)) .nil)))))) .nil)) (fun i env st => ∃ w x, env = [.pl, .im (.str a), .im (.str b), .im (.int m), .im (.str w), x] ∧ WordOf a b i w ∧ Pok st)
    ((List.range m.toNat).map fun (k : Nat) => PyData.int (k : Int)) [.pl, .im (.str a), .im (.str b), .im (.int m), .im (.str ⟨#[c]⟩), .no] st1 ⟨⟨#[c]⟩, .no, rfl, ⟨c, [], rfl, hca, fun x hx => by (cases hx), rfl⟩, h1⟩
    (fun i d env st hi ⟨w, x, e, hw, hp⟩ => by
      subst e
      have hi2 : i < m.toNat := by
        have := (List.getElem?_eq_some_iff.mp hi).1
        simpa using this
      obtain ⟨r, st1, e1, r0, r1, h1⟩ := hd b.length st hp (by omega) (by omega)
      have hat := atI_of (xs := b.cps.toList) r0 (by rw [lb]; exact r1)
      generalize hc : b.cps.toList[r.toNat]'_ = c at hat
      have hcb : c ∈ b.cps.toList := by rw [← hc]; exact List.getElem_mem _
      have hwl := hw.len
      have hl1 : (⟨#[c]⟩ : Str).length = 1 := rfl
      have hsum : w.length + (⟨#[c]⟩ : Str).length ≤ most := by
        rw [hl1, hwl]
        show i + 1 + 1 ≤ 100000
        omega
      refine ⟨[.pl, .im (.str a), .im (.str b), .im (.int m), .im (.str (w ++ ⟨#[c]⟩)), .im d], st1, ?_, w ++ ⟨#[c]⟩, .im d, rfl, ?_, h1⟩
      · simp [fb_eq, sgD, binD, biD, ixD, hb, e1, hat, hsum]
      · obtain ⟨c0, l, rfl, h2, h3, h4⟩ := hw
        refine ⟨c0, l ++ [c], ?_, h2, fun y hy => ?_, by simp [h4]⟩
        · show (⟨(c0 :: l).toArray ++ #[c]⟩ : Str) = _
          simp
        · rcases List.mem_append.mp hy with hy | hy
          · exact h3 y hy
          · rw [List.mem_singleton.mp hy]
            exact hcb)
  refine ⟨w, st2, ?_, by simpa using e4, e5⟩
  simp [runI, runF, I_law_word, slOf, binD, biD, ixD, ha, e1, hat, hrg, e2]
end Cm

set_option Elab.async false
set_option linter.all false
set_option maxRecDepth 100000
set_option maxHeartbeats 4000000
namespace Cm
open PySem Ip L2
theorem forG_or0 {f : D → List Sl → Pl → Option Out} (I : Nat → List Sl → Pl → Prop) (R : D → Pl → Prop) (ds : List D) (env : List Sl) (st : Pl) (h : I 0 env st)
    (hs : ∀ i d env st, ds[i]? = some d → I i env st → (∃ env' st', (f d env st = some (.nx env' st') ∨ f d env st = some (.ct env' st')) ∧ I (i + 1) env' st') ∨ (∃ v st', f d env st = some (.rt v st') ∧ R v st')) :
    (∃ env' st', forG f ds env st = some (.nx env' st') ∧ I ds.length env' st') ∨ (∃ v st', forG f ds env st = some (.rt v st') ∧ R v st') := by
  have h1 := forG_or (f := f) I R ds 0 env st h fun i d env st hi h' => by
    rw [Nat.zero_add] at h' ⊢
    exact hs i d env st hi h'
  rw [Nat.zero_add] at h1
  exact h1
def flats (xs : List D) : Prop := xs.all flatD = true
theorem rng_at {n i : Nat} {d : D} (h : ((List.range n).map fun (k : Nat) => PyData.int (k : Int))[i]? = some d) : i < n ∧ d = .int i := by
  obtain ⟨h1, h2⟩ := List.getElem?_eq_some_iff.mp h
  simp at h1
  simp at h2
  exact ⟨h1, h2.symm⟩
theorem repr_len : ∀ k ∈ List.range 60, (toString (k : Int)).toList.length ≤ 2 := by decide
theorem str_small {i : Nat} (h : i < 60) : ∃ s, biD .str [.int (i : Int)] = some (.str s) ∧ s.length ≤ 2 := by
  refine ⟨Str.ofString (toString (i : Int)), ?_, ?_⟩
  · have h0 : (i : Int).natAbs.log2 < 1920 := by
      have h0 : (i : Int).natAbs = i := by omega
      rw [h0]
      exact Nat.lt_of_le_of_lt (Nat.log2_le_self i) (by omega)
    show (if _ then _ else _) = _
    rw [if_pos h0]
  · rw [ofString_len]
    exact repr_len i (List.mem_range.mpr h)
theorem cut_len (w : Str) : (cutS w none (some 4)).length ≤ 4 := by
  show (List.toArray _).size ≤ 4
  simp [HT.sIx]
  omega
def FreshOk (cl : Cl) : Prop := ∀ (xs : List D) (st : Pl), Pok st → flats xs → ∃ w st', cl "_law_fresh" [none, some (.list xs)] st = some (.str w, st') ∧ w.length ≤ 6 ∧ Pok st'
theorem kinds_flat : kindsD.all flatD = true := by rfl
theorem l26 : (Str.ofString "abcdefghijklmnopqrstuvwxyz").length = 26 := by rw [ofString_len]; decide
theorem l10 : (Str.ofString "0123456789").length = 10 := by rw [ofString_len]; decide
theorem fresh_run {cl : Cl} (hd : DrawOk cl) (hw : WordOk cl) (hk : KindsOk cl) (xs : List D) (st : Pl) (h : Pok st) (hx : flats xs) :
    ∃ w st', runI 2 cl I_law_fresh [none, some (.list xs)] st = some (.str w, st') ∧ w.length ≤ 6 ∧ Pok st' := by
  have hm36 : (26 : Nat) + 10 ≤ most := by decide
  have hrg : rngD 0 60 = some ((List.range 60).map fun (k : Nat) => PyData.int (k : Int)) := rngD_nat (n := 60) (by decide) (by decide)
  have h2m : (2 : Nat) ≤ most := by decide
  have tail : ∀ (m : Int) (st2 : Pl), Pok st2 → 0 ≤ m → m ≤ 5 → ∃ w st3, cl "_law_word" [none, some (.str "abcdefghijklmnopqrstuvwxyz"), some (.str (Str.ofString "abcdefghijklmnopqrstuvwxyz" ++ Str.ofString "0123456789")), some (.int m)] st2 = some (.str w, st3) ∧
      ((∃ w2 x, forG (fb cl (.one 5) (.cons (.iff (.and (.cmp .notin (.var 4) (.var 1)) (.and (.cmp .notin (.var 4) (.call "_law_kinds" .nil)) (.cmp .notin (.var 4) (.lst (.cons (.cst (.str "lent")) (.cons (.cst (.str "main")) .nil)))))) (.cons (.ret (.var 4)) .nil) .nil)
        (.cons (.set 4 (.bin .add (.sl (.var 4) .non (.some (.cst (.int 4)))) (.bi .str (.cons (.var 5) .nil)))) .nil)))
        ((List.range 60).map fun (k : Nat) => PyData.int (k : Int)) [.pl, .im (.list xs), .im (.str "abcdefghijklmnopqrstuvwxyz"), .im (.int m), .im (.str w), .no] st3 = some (.nx [.pl, .im (.list xs), .im (.str "abcdefghijklmnopqrstuvwxyz"), .im (.int m), .im (.str w2), x] st3) ∧ w2.length ≤ 6) ∨
      (∃ w2, forG (fb cl (.one 5) (.cons (.iff (.and (.cmp .notin (.var 4) (.var 1)) (.and (.cmp .notin (.var 4) (.call "_law_kinds" .nil)) (.cmp .notin (.var 4) (.lst (.cons (.cst (.str "lent")) (.cons (.cst (.str "main")) .nil)))))) (.cons (.ret (.var 4)) .nil) .nil)
        (.cons (.set 4 (.bin .add (.sl (.var 4) .non (.some (.cst (.int 4)))) (.bi .str (.cons (.var 5) .nil)))) .nil)))
        ((List.range 60).map fun (k : Nat) => PyData.int (k : Int)) [.pl, .im (.list xs), .im (.str "abcdefghijklmnopqrstuvwxyz"), .im (.int m), .im (.str w), .no] st3 = some (.rt (.str w2) st3) ∧ w2.length ≤ 6)) ∧ Pok st3 := fun m st2 h2 m0 m1 => by
    obtain ⟨w, st3, e3, w1, h3⟩ := hw "abcdefghijklmnopqrstuvwxyz" (Str.ofString "abcdefghijklmnopqrstuvwxyz" ++ Str.ofString "0123456789") m st2 h2 (by rw [l26]; decide) (by rw [l26]; decide) (by rw [str_len_add, l26]; omega) (by rw [str_len_add, l26, l10]; decide) m0 (by omega)
    refine ⟨w, st3, e3, ?_, h3⟩
    rcases forG_or0 (f := fb cl (.one 5) (.cons (.iff (.and (.cmp .notin (.var 4) (.var 1)) (.and (.cmp .notin (.var 4) (.call "_law_kinds" .nil)) (.cmp .notin (.var 4) (.lst (.cons (.cst (.str "lent")) (.cons (.cst (.str "main")) .nil)))))) (.cons (.ret (.var 4)) .nil) .nil)
        (.cons (.set 4 (.bin .add (.sl (.var 4) .non (.some (.cst (.int 4)))) (.bi .str (.cons (.var 5) .nil)))) .nil)))
      (fun _ env st => ∃ w x, env = [.pl, .im (.list xs), .im (.str "abcdefghijklmnopqrstuvwxyz"), .im (.int m), .im (.str w), x] ∧ w.length ≤ 6 ∧ st = st3)
      (fun v st => ∃ w, v = .str w ∧ w.length ≤ 6 ∧ st = st3)
      ((List.range 60).map fun (k : Nat) => PyData.int (k : Int))
      [.pl, .im (.list xs), .im (.str "abcdefghijklmnopqrstuvwxyz"), .im (.int m), .im (.str w), .no] st3 ⟨w, .no, rfl, by rw [w1.len]; omega, rfl⟩
      (fun i d env st hi ⟨w, x, e, hw, hst⟩ => by
        subst e
        subst hst
        obtain ⟨hi2, rfl⟩ := rng_at hi
        have hwm : w.length ≤ most := Nat.le_trans hw (by decide)
        obtain ⟨s, hs, hsl⟩ := str_small hi2
        have hc4 := cut_len w
        have hll : (cutS w none (some 4)).length + s.length ≤ most := by
          show _ ≤ 100000
          omega
        have hll2 : (cutS w none (some 4) ++ s).length ≤ 6 := by
          rw [str_len_add]
          omega
        have e4 : (∀ b, b = (memD (.str w) xs = true ∨ memD (.str w) kindsD = true ∨ w = Str.ofString "lent" ∨ w = Str.ofString "main") → True) := fun _ _ => trivial
        by_cases h1 : memD (.str w) xs = true
        · refine .inl ⟨[.pl, .im (.list xs), .im (.str "abcdefghijklmnopqrstuvwxyz"), .im (.int m), .im (.str (cutS w none (some 4) ++ s)), .im (.int i)], st, .inl ?_, _, _, rfl, hll2, rfl⟩
          simp [fb_eq, sgD, binD, slD, cmpD, inD, flatD, Cst.d, hwm, hs, hll, h1, show xs.all flatD = true from hx]
        · by_cases h2 : memD (.str w) kindsD = true
          · refine .inl ⟨[.pl, .im (.list xs), .im (.str "abcdefghijklmnopqrstuvwxyz"), .im (.int m), .im (.str (cutS w none (some 4) ++ s)), .im (.int i)], st, .inl ?_, _, _, rfl, hll2, rfl⟩
            simp [fb_eq, sgD, binD, slD, cmpD, inD, flatD, Cst.d, hwm, hs, hll, h1, h2, hk st, kinds_flat, show xs.all flatD = true from hx]
          · by_cases h3 : (Str.ofString "lent" = w ∨ Str.ofString "main" = w)
            · refine .inl ⟨[.pl, .im (.list xs), .im (.str "abcdefghijklmnopqrstuvwxyz"), .im (.int m), .im (.str (cutS w none (some 4) ++ s)), .im (.int i)], st, .inl ?_, _, _, rfl, hll2, rfl⟩
              simp [fb_eq, sgD, binD, slD, cmpD, inD, flatD, Cst.d, hwm, hs, hll, h1, h2, hk st, kinds_flat, h2m, show xs.all flatD = true from hx, show memD (.str w) [.str (Str.ofString "lent"), .str (Str.ofString "main")] = true by simp [memD, h3]]
            · refine .inr ⟨.str w, st, ?_, w, rfl, hw, rfl⟩
              simp [fb_eq, sgD, binD, slD, cmpD, inD, flatD, Cst.d, hwm, hs, hll, h1, h2, hk st, kinds_flat, h2m, show xs.all flatD = true from hx, show memD (.str w) [.str (Str.ofString "lent"), .str (Str.ofString "main")] = false by simp [memD]; exact ⟨fun e => h3 (.inl e), fun e => h3 (.inr e)⟩]) with ⟨env', st4, e4, w2, x, rfl, h4, rfl⟩ | ⟨v, st4, e4, w2, rfl, h4, rfl⟩
    · exact .inl ⟨w2, x, e4, h4⟩
    · exact .inr ⟨w2, e4, h4⟩
  obtain ⟨r, st1, e1, r0, r1, h1⟩ := hd 3 st h (by decide) (by decide)
  by_cases h2 : r = 2
  · subst h2
    obtain ⟨r', st2, e2, r0', r1', h2'⟩ := hd 6 st1 h1 (by decide) (by decide)
    obtain ⟨w, st3, e3, ⟨w2, x, e4, h4⟩ | ⟨w2, e4, h4⟩, h3⟩ := tail r' st2 h2' r0' (by omega)
    · refine ⟨w2, st3, ?_, h4, h3⟩
      simp [runI, runF, I_law_fresh, slOf, binD, cmpD, eqD, Cst.d, l26, l10, hm36, e1, e2, e3, hrg, e4]
    · refine ⟨w2, st3, ?_, h4, h3⟩
      simp [runI, runF, I_law_fresh, slOf, binD, cmpD, eqD, Cst.d, l26, l10, hm36, e1, e2, e3, hrg, e4]
  · obtain ⟨w, st3, e3, ⟨w2, x, e4, h4⟩ | ⟨w2, e4, h4⟩, h3⟩ := tail r st1 h1 r0 (by omega)
    · refine ⟨w2, st3, ?_, h4, h3⟩
      simp [runI, runF, I_law_fresh, slOf, binD, cmpD, eqD, Cst.d, l26, l10, hm36, e1, e3, hrg, e4, h2]
    · refine ⟨w2, st3, ?_, h4, h3⟩
      simp [runI, runF, I_law_fresh, slOf, binD, cmpD, eqD, Cst.d, l26, l10, hm36, e1, e3, hrg, e4, h2]
end Cm

set_option Elab.async false
set_option linter.all false
set_option maxRecDepth 100000
set_option maxHeartbeats 4000000
namespace Cm
open PySem Ip L2
/-! ### literals, kinds -/
def LitD (d : D) : Prop := (∃ i : Int, d = .int i ∧ -99 ≤ i ∧ i ≤ 99) ∨ ∃ w : Str, d = .str w ∧ 1 ≤ w.length ∧ w.length ≤ 6
def LiteralOk (cl : Cl) : Prop := ∀ (st : Pl), Pok st → ∃ d st', cl "_law_literal" [none] st = some (d, st') ∧ LitD d ∧ Pok st'
def KindOk (cl : Cl) : Prop := ∀ (st : Pl), Pok st → ∃ d st', cl "_law_kind" [none] st = some (d, st') ∧ (d = .none ∨ d ∈ kindsD) ∧ Pok st'
theorem literal_run {cl : Cl} (hd : DrawOk cl) (hw : WordOk cl) (st : Pl) (h : Pok st) : ∃ d st', runI 1 cl I_law_literal [none] st = some (d, st') ∧ LitD d ∧ Pok st' := by
  have h6m : (6 : Nat) ≤ most := by decide
  obtain ⟨r, st1, e1, r0, r1, h1⟩ := hd 5 st h (by decide) (by decide)
  by_cases q0 : r = 0
  · subst q0
    obtain ⟨s, st2, e2, s0, s1, h2⟩ := hd 2 st1 h1 (by decide) (by decide)
    refine ⟨.int s, st2, ?_, .inl ⟨s, rfl, by omega, by omega⟩, h2⟩
    simp [runI, runF, I_law_literal, slOf, cmpD, eqD, Cst.d, e1, e2]
  by_cases q1 : r = 1
  · subst q1
    obtain ⟨s, st2, e2, s0, s1, h2⟩ := hd 199 st1 h1 (by decide) (by decide)
    refine ⟨.int (s - 99), st2, ?_, .inl ⟨s - 99, rfl, by omega, by omega⟩, h2⟩
    simp [runI, runF, I_law_literal, slOf, cmpD, eqD, binD, Cst.d, e1, e2]
  by_cases q2 : r = 2
  · subst q2
    obtain ⟨s, st2, e2, s0, s1, h2⟩ := hd 6 st1 h1 (by decide) (by decide)
    have hat := atI_of (xs := [PyData.int (-10), .int (-9), .int (-1), .int 2, .int 9, .int 10]) s0 (by simpa using s1)
    generalize hx : ([PyData.int (-10), .int (-9), .int (-1), .int 2, .int 9, .int 10])[s.toNat]'_ = x at hat
    have hm : x ∈ [PyData.int (-10), .int (-9), .int (-1), .int 2, .int 9, .int 10] := by rw [← hx]; exact List.getElem_mem _
    refine ⟨x, st2, ?_, ?_, h2⟩
    · simp [runI, runF, I_law_literal, slOf, cmpD, eqD, binD, ixD, Cst.d, e1, e2, h6m, hat]
    · simp only [List.mem_cons, List.not_mem_nil, or_false] at hm
      rcases hm with rfl | rfl | rfl | rfl | rfl | rfl <;> exact .inl ⟨_, rfl, by decide, by decide⟩
  by_cases q3 : r = 3
  · subst q3
    obtain ⟨s, st2, e2, s0, s1, h2⟩ := hd 10 st1 h1 (by decide) (by decide)
    refine ⟨.int s, st2, ?_, .inl ⟨s, rfl, by omega, by omega⟩, h2⟩
    simp [runI, runF, I_law_literal, slOf, cmpD, eqD, Cst.d, e1, e2]
  · obtain ⟨s, st2, e2, s0, s1, h2⟩ := hd 6 st1 h1 (by decide) (by decide)
    obtain ⟨w, st3, e3, hw, h3⟩ := hw "abcdefghijklmnopqrstuvwxyz" "abcdefghijklmnopqrstuvwxyz" s st2 h2 (by rw [l26]; decide) (by rw [l26]; decide) (by rw [l26]; decide) (by rw [l26]; decide) s0 (by omega)
    refine ⟨.str w, st3, ?_, .inr ⟨w, rfl, by rw [hw.len]; omega, by rw [hw.len]; omega⟩, h3⟩
    simp [runI, runF, I_law_literal, slOf, cmpD, eqD, Cst.d, e1, e2, e3, q0, q1, q2, q3]
theorem kind_run {cl : Cl} (hd : DrawOk cl) (hk : KindsOk cl) (st : Pl) (h : Pok st) : ∃ d st', runI 1 cl I_law_kind [none] st = some (d, st') ∧ (d = .none ∨ d ∈ kindsD) ∧ Pok st' := by
  obtain ⟨r, st1, e1, r0, r1, h1⟩ := hd 2 st h (by decide) (by decide)
  by_cases q0 : r = 0
  · subst q0
    refine ⟨.none, st1, ?_, .inl rfl, h1⟩
    simp [runI, runF, I_law_kind, slOf, cmpD, eqD, Cst.d, e1]
  · obtain ⟨s, st2, e2, s0, s1, h2⟩ := hd 7 st1 h1 (by decide) (by decide)
    have hat := atI_of (xs := kindsD) s0 (by simpa [kindsD] using s1)
    generalize hx : kindsD[s.toNat]'_ = x at hat
    refine ⟨x, st2, ?_, .inr (by rw [← hx]; exact List.getElem_mem _), h2⟩
    simp [runI, runF, I_law_kind, slOf, cmpD, eqD, ixD, Cst.d, e1, e2, q0, hk st1, hat]
/-! ### sameness of a thing with itself -/
def scal : D → Prop
  | .none => True
  | .bool _ => True
  | .int _ => True
  | .str _ => True
  | _ => False
def dep : Nat → D → Prop
  | 0, d => scal d
  | n + 1, d => scal d ∨ ∃ xs, (d = .list xs ∨ d = .tuple xs) ∧ xs.length ≤ most ∧ ∀ x ∈ xs, dep n x
theorem dep_succ (n : Nat) (d : D) : dep (n + 1) d = (scal d ∨ ∃ xs, (d = .list xs ∨ d = .tuple xs) ∧ xs.length ≤ most ∧ ∀ x ∈ xs, dep n x) := rfl
theorem most_lt {n : Nat} (h : n ≤ most) : (n : Int) ≤ 100000 := by
  unfold most at h
  omega
def IsIntOk (cl : Cl) : Prop := ∀ (d : D) (st : Pl), cl "_law_is_int" [some d] st = some (.bool (isiD .int d && !isiD .bool d), st)
def SameOk (cl : Cl) (n : Nat) : Prop := ∀ (d : D) (st : Pl), dep n d → cl "_law_same" [some d, some d] st = some (.bool true, st)
theorem is_int_run (cl : Cl) (d : D) (st : Pl) : runI 1 cl I_law_is_int [some d] st = some (.bool (isiD .int d && !isiD .bool d), st) := by
  cases h : isiD .int d <;> simp [runI, runF, I_law_is_int, slOf, h]
theorem same_scal {cl : Cl} (hi : IsIntOk cl) (d : D) (st : Pl) (h : scal d) : runI 2 cl I_law_same [some d, some d] st = some (.bool true, st) := by
  have hi2 : ∀ i, cl "_law_is_int" [some (.int i)] st = some (.bool true, st) := fun i => hi _ _
  cases d with
  | none => simp [runI, runF, I_law_same, slOf, cmpD, Cst.d]
  | bool b => simp [runI, runF, I_law_same, slOf, cmpD, eqD, Cst.d, isiD]
  | int i => simp [runI, runF, I_law_same, slOf, cmpD, eqD, Cst.d, isiD, hi2]
  | str s => simp [runI, runF, I_law_same, slOf, cmpD, eqD, Cst.d, isiD]
  | _ => exact h.elim
theorem same_run {cl : Cl} {n : Nat} (hi : IsIntOk cl) (hs : SameOk cl n) (d : D) (st : Pl) (h : dep (n + 1) d) : runI 2 cl I_law_same [some d, some d] st = some (.bool true, st) := by
  rw [dep_succ] at h
  rcases h with h | ⟨xs, h, hl, hx⟩
  · exact same_scal hi d st h
  · have hrg : rngD 0 (xs.length : Int) = some ((List.range xs.length).map fun (k : Nat) => PyData.int (k : Int)) := rngD_nat (n := (xs.length : Int)) (Int.natCast_nonneg _) (most_lt hl)
    have at_ : ∀ i, i < xs.length → ∃ x, atI xs (i : Int) = some x ∧ dep n x := fun i hi => by
      refine ⟨_, atI_of (xs := xs) (r := (i : Int)) (by omega) (by omega), hx _ (List.getElem_mem _)⟩
    have key : ∀ d, d = .list xs ∨ d = .tuple xs → ∃ env', forG (fb cl (.one 2) (.cons (.iff (.not (.call "_law_same" (.cons (.ix (.var 0) (.var 2)) (.cons (.ix (.var 1) (.var 2)) .nil)))) (.cons (.ret (.cst (.bl false))) .nil) .nil) .nil))
        ((List.range xs.length).map fun (k : Nat) => PyData.int (k : Int)) [.im d, .im d, .no] st = some (.nx env' st) := fun d h => by
      obtain ⟨env', st', e, x, e2, e3⟩ := forG_nx (f := fb cl (.one 2) (.cons (.iff (.not (.call "_law_same" (.cons (.ix (.var 0) (.var 2)) (.cons (.ix (.var 1) (.var 2)) .nil)))) (.cons (.ret (.cst (.bl false))) .nil) .nil) .nil))
        (fun _ env s => ∃ x, env = [.im d, .im d, x] ∧ s = st) ((List.range xs.length).map fun (k : Nat) => PyData.int (k : Int)) [.im d, .im d, .no] st ⟨_, rfl, rfl⟩
        (fun i y env s hy ⟨x, e, e2⟩ => by
          subst e
          subst e2
          obtain ⟨hi2, rfl⟩ := rng_at hy
          obtain ⟨z, hz, hz2⟩ := at_ i hi2
          have hz3 := hs z s hz2
          refine ⟨[.im d, .im d, .im (.int i)], s, ?_, ⟨_, rfl, rfl⟩⟩
          rcases h with rfl | rfl <;> simp [fb_eq, sgD, ixD, hz, hz3])
      subst e3
      exact ⟨env', e⟩
    obtain ⟨env', e⟩ := key d h
    rcases h with rfl | rfl
    · simp [runI, runF, I_law_same, slOf, cmpD, eqD, biD, Cst.d, isiD, hrg, e]
    · simp [runI, runF, I_law_same, slOf, cmpD, eqD, biD, Cst.d, isiD, hrg, e]
end Cm

set_option Elab.async false
set_option linter.all false
set_option maxRecDepth 100000
set_option maxHeartbeats 4000000
namespace K25
open PySem Ip
/-! The defs in short. -/
def I_next_picks : IF := ⟨4, (.cons (.forr (.one 2) (.rng3 (.bin .sub (.bi .len (.cons (.var 1) .nil)) (.cst (.int 1))) (.cst (.int (-1)))) (.cons (.set 3 (.call "pick_at" (.cons (.var 0) (.cons (.var 2) .nil))))
  (.cons (.iff (.cmp .lt (.bin .add (.var 3) (.cst (.int 1))) (.ix (.var 1) (.var 2))) (.cons (.retf (.bin .add (.call "filled_picks" (.cons (.sl (.var 0) .non (.some (.var 2))) (.cons (.var 2) .nil))) (.lst (.cons (.bin .add (.var 3) (.cst (.int 1))) .nil))))
  .nil) .nil)
  .nil)))
  (.cons (.ret (.cst .non))
  .nil))⟩
def I_pick_at : IF := ⟨2, (.cons (.ret (.ifx (.cmp .lt (.var 1) (.bi .len (.cons (.var 0) .nil))) (.ix (.var 0) (.var 1)) (.cst (.int 0))))
  .nil)⟩
def I_filled_picks : IF := ⟨2, (.cons (.ret (.bin .add (.bi .list (.cons (.var 0) .nil)) (.rep (.lst (.cons (.cst (.int 0)) .nil)) (.bin .sub (.var 1) (.bi .len (.cons (.var 0) .nil))))))
  .nil)⟩
abbrev I_law_mixed : IF := Cm.I_law_mixed
abbrev I_law_draw : IF := Cm.I_law_draw
abbrev I_law_is_int : IF := Cm.I_law_is_int
abbrev I_law_same : IF := Cm.I_law_same
def I_law_grow : IF := ⟨6, (.cons (.set 4 (.ix (.lst (.cons (.cst (.int 0)) (.cons (.cst (.int 0)) (.cons (.cst (.int 1)) (.cons (.cst (.int 2)) (.cons (.cst (.int 3)) (.cons (.cst (.int 4)) (.cons (.cst (.int 2)) (.cons (.cst (.int 3)) (.cons (.cst (.int 1)) (.cons (.cst (.int 12)) .nil))))))))))) (.call "_law_draw" (.pool 0 (.cons (.cst (.int 10)) .nil)))))
  (.cons (.iff (.cmp .ge (.bi .len (.cons (.var 2) .nil)) (.cst (.int 6))) (.cons (.set 4 (.cst (.int 0)))
  .nil) .nil)
  (.cons (.iff (.cmp .eq (.var 4) (.cst (.int 0))) (.cons (.app 3 (.lst (.cons (.var 1) (.cons (.var 2) .nil))))
  .nil) .nil)
  (.cons (.forr (.one 5) (.rng1 (.var 4)) (.cons (.iff (.cmp .lt (.olen 3) (.cst (.int 61))) (.cons (.dropc "_law_grow" (.pool 0 (.cons (.bin .add (.var 1) (.lst (.cons (.var 5) .nil))) (.cons (.bin .add (.var 2) (.lst (.cons (.var 4) .nil))) .nil))) 3)
  .nil) .nil)
  .nil))
  .nil))))⟩
def I_law_parting : IF := ⟨3, (.cons (.forr (.one 2) (.rng1 (.bi .len (.cons (.var 0) .nil))) (.cons (.iff (.cmp .ne (.ix (.var 0) (.var 2)) (.ix (.var 1) (.var 2))) (.cons (.ret (.var 2))
  .nil) .nil)
  .nil))
  (.cons (.ret (.bi .len (.cons (.var 0) .nil)))
  .nil))⟩
def I_law_follows : IF := ⟨6, (.cons (.set 3 (.bi .list (.cons (.var 0) .nil)))
  (.cons (.set 4 (.bi .list (.cons (.var 1) .nil)))
  (.cons (.setf 5 "next_picks" (.cons (.var 3) (.cons (.var 4) .nil)))
  (.cons (.iff (.lent [5] (.or (.not (.call "_law_same" (.cons (.var 5) (.cons (.var 2) .nil)))) (.or (.cmp .ne (.var 3) (.var 0)) (.cmp .ne (.var 4) (.var 1))))) (.cons (.ret (.cst (.bl false)))
  .nil) .nil)
  (.cons (.iff (.lent [5] (.cmp .noN (.var 5) (.cst .non))) (.cons (.app 5 (.cst (.int 1)))
  (.cons (.oset 5 0 (.cst (.int 5)))
  .nil)) .nil)
  (.cons (.ret (.call "_law_same" (.cons (.call "next_picks" (.cons (.var 3) (.cons (.var 4) .nil))) (.cons (.var 2) .nil))))
  .nil))))))⟩
def I_law_raised : IF := ⟨6, (.cons (.set 2 (.bin .add (.var 0) (.lc 3 (.rng1 (.bin .sub (.bi .len (.cons (.var 1) .nil)) (.bi .len (.cons (.var 0) .nil)))) .nil (.cst (.int 0)))))
  (.cons (.set 4 (.cst .non))
  (.cons (.forr (.one 5) (.rng1 (.bi .len (.cons (.var 1) .nil))) (.cons (.iff (.cmp .lt (.bin .add (.ix (.var 2) (.var 5)) (.cst (.int 1))) (.ix (.var 1) (.var 5))) (.cons (.set 4 (.bin .add (.sl (.var 2) .non (.some (.var 5))) (.lst (.cons (.bin .add (.ix (.var 2) (.var 5)) (.cst (.int 1))) .nil))))
  .nil) .nil)
  .nil))
  (.cons (.ret (.var 4))
  .nil))))⟩
def I_law_loose : IF := ⟨6, (.cons (.own 1 (.lst .nil))
  (.cons (.own 2 (.lst .nil))
  (.cons (.forr (.one 3) (.rng1 (.call "_law_draw" (.pool 0 (.cons (.cst (.int 9)) .nil)))) (.cons (.app 1 (.bin .add (.cst (.int 1)) (.call "_law_draw" (.pool 0 (.cons (.ix (.lst (.cons (.cst (.int 1)) (.cons (.cst (.int 3)) (.cons (.cst (.int 12)) (.cons (.bin .pow (.cst (.int 10)) (.cst (.int 9))) .nil))))) (.call "_law_draw" (.pool 0 (.cons (.cst (.int 4)) .nil)))) .nil)))))
  .nil))
  (.cons (.frz [1] (.forr (.one 4) (.seq (.var 1)) (.cons (.set 5 (.bin .sub (.var 4) (.cst (.int 1))))
  (.cons (.iff (.cmp .eq (.call "_law_draw" (.pool 0 (.cons (.cst (.int 2)) .nil))) (.cst (.int 1))) (.cons (.set 5 (.call "_law_draw" (.pool 0 (.cons (.var 4) .nil))))
  .nil) .nil)
  (.cons (.app 2 (.var 5))
  .nil)))))
  (.cons (.frz [2, 1] (.ret (.lst (.cons (.sl (.var 2) .non (.some (.bin .sub (.olen 2) (.call "_law_draw" (.pool 0 (.cons (.bin .add (.olen 2) (.cst (.int 1))) .nil)))))) (.cons (.var 1) .nil)))))
  .nil)))))⟩
def I_law : IF := ⟨10, (.cons (.own 2 (.lst .nil))
  (.cons (.dropc "_law_grow" (.pool 1 (.cons (.lst .nil) (.cons (.lst .nil) .nil))) 2)
  (.cons (.set 3 (.lst .nil))
  (.cons (.forr (.one 4) (.rng1 (.mn2 (.cst (.int 60)) (.olen 2))) (.cons (.frz [2] (.unp [6, 7] (.ix (.var 2) (.var 4))))
  (.cons (.set 5 (.cst .non))
  (.cons (.iff (.cmp .lt (.bin .add (.var 4) (.cst (.int 1))) (.olen 2)) (.cons (.frz [2] (.set 8 (.ix (.ix (.var 2) (.bin .add (.var 4) (.cst (.int 1)))) (.cst (.int 0)))))
  (.cons (.set 5 (.sl (.var 8) .non (.some (.bin .add (.call "_law_parting" (.cons (.var 6) (.cons (.var 8) .nil))) (.cst (.int 1))))))
  .nil)) .nil)
  (.cons (.iff (.or (.not (.call "_law_follows" (.cons (.var 3) (.cons (.var 7) (.cons (.var 5) .nil))))) (.not (.call "_law_follows" (.cons (.var 6) (.cons (.var 7) (.cons (.var 5) .nil)))))) (.cons (.ret (.cst (.bl false)))
  .nil) .nil)
  (.cons (.set 3 (.var 5))
  .nil))))))
  (.cons (.forr (.one 4) (.rng1 (.cst (.int 3))) (.cons (.unp [9, 7] (.call "_law_loose" (.pool 1 .nil)))
  (.cons (.iff (.not (.call "_law_follows" (.cons (.var 9) (.cons (.var 7) (.cons (.call "_law_raised" (.cons (.var 9) (.cons (.var 7) .nil))) .nil))))) (.cons (.ret (.cst (.bl false)))
  .nil) .nil)
  .nil)))
  (.cons (.ret (.cst (.bl true)))
  .nil))))))⟩
end K25

set_option Elab.async false
set_option linter.all false
set_option maxRecDepth 100000
set_option maxHeartbeats 4000000
namespace K25
open PySem L2 Ip
def top (i : Nat) : Stmt := PySem.Challenge.pw_quickways_k25_whole_next_picks_go_throug.main.body.getD i (.Pass ⟨0, 0, 0, 0⟩)
abbrev es : List (Str × Str) := []
abbrev ks : List (Str × Str × Bool) := []
abbrev ts : List (Str × Str × Bool) := []
abbrev gs : List (Str × PyData) := []
abbrev df : List (Str × List Cst) := []
def n_next_picks : List Str := ["picks", "options", "at", "pick"]
abbrev g_next_picks (K : PySem.W.Frag) (cl : Cl) : Gam := { N := n_next_picks, sc := defScope (top 1), K := K, cl := cl, fs := ["filled_picks", "pick_at"], bs := ["range", "len"], xs := [], es := es, hs := [], hot := false, ks := ks, ts := ts, gs := gs, df := df, gn := [], io := none, fr := true, fi := [], ff := [] }
theorem d_next_picks (K : PySem.W.Frag) (cl : Cl) : SSs (g_next_picks K cl) (defBody (top 1)) I_next_picks.body :=
(sss_cons (ss_for (si_rng3 (bin_sub (len_se (se_var 1)) se_int) ng_se ng_se) (tg_one 2)
(sss_cons (ss_set 3 (call_se (sg_cons (se_var 0) (sg_cons (se_var 2) sg_nil))))
(sss_cons (ss_iff (cmp_st cLt (bin_add (se_var 3) se_int) (ix_se (se_var 1) (se_var 2)) rfl)
(sss_cons (ss_retf (addl_sf (call_se (sg_cons (sl_se (se_var 0) so_non (so_some (se_var 2))) (sg_cons (se_var 2) sg_nil))) (lst_se (sa_cons (bin_add (se_var 3) se_int) sa_nil))))
sss_nil)
sss_nil)
sss_nil)))
(sss_cons (ss_retn se_non)
sss_nil))
theorem s_next_picks : FnScope n_next_picks ["picks", "options"] (defScope (top 1)) := ⟨rfl, rfl, rfl, by decide +kernel, rfl, by decide +kernel, by decide +kernel⟩
def n_pick_at : List Str := ["picks", "at"]
abbrev g_pick_at (K : PySem.W.Frag) (cl : Cl) : Gam := { N := n_pick_at, sc := defScope (top 2), K := K, cl := cl, fs := [], bs := ["len"], xs := [], es := es, hs := [], hot := false, ks := ks, ts := ts, gs := gs, df := df, gn := [], io := none, fr := false, fi := [], ff := [] }
theorem d_pick_at (K : PySem.W.Frag) (cl : Cl) : SSs (g_pick_at K cl) (defBody (top 2)) I_pick_at.body :=
(sss_cons (ss_ret (se_ifx (cmp_st cLt (se_var 1) (len_se (se_var 0)) rfl) (ix_se (se_var 0) (se_var 1)) se_int))
sss_nil)
theorem s_pick_at : FnScope n_pick_at ["picks", "at"] (defScope (top 2)) := ⟨rfl, rfl, rfl, by decide +kernel, rfl, by decide +kernel, by decide +kernel⟩
def n_filled_picks : List Str := ["picks", "many"]
abbrev g_filled_picks (K : PySem.W.Frag) (cl : Cl) : Gam := { N := n_filled_picks, sc := defScope (top 3), K := K, cl := cl, fs := [], bs := ["list", "len"], xs := [], es := es, hs := [], hot := false, ks := ks, ts := ts, gs := gs, df := df, gn := [], io := none, fr := false, fi := [], ff := [] }
theorem d_filled_picks (K : PySem.W.Frag) (cl : Cl) : SSs (g_filled_picks K cl) (defBody (top 3)) I_filled_picks.body :=
(sss_cons (ss_ret (bin_add (list_se (se_var 0)) (rep_se (lst_se (sa_cons se_int sa_nil)) (bin_sub (se_var 1) (len_se (se_var 0))))))
sss_nil)
theorem s_filled_picks : FnScope n_filled_picks ["picks", "many"] (defScope (top 3)) := ⟨rfl, rfl, rfl, by decide +kernel, rfl, by decide +kernel, by decide +kernel⟩
def n_law_mixed : List Str := ["_law_cell", "_law_turn", "_law_limit", "_law_first", "_law_second", "_law_third"]
abbrev g_law_mixed (K : PySem.W.Frag) (cl : Cl) : Gam := { N := n_law_mixed, sc := defScope (top 6), K := K, cl := cl, fs := [], bs := ["int"], xs := [], es := es, hs := [], hot := false, ks := ks, ts := ts, gs := gs, df := df, gn := [], io := none, fr := false, fi := [], ff := [] }
theorem d_law_mixed (K : PySem.W.Frag) (cl : Cl) : SSs (g_law_mixed K cl) (defBody (top 6)) I_law_mixed.body :=
(sss_cons (ss_set 3 (bin_mod (int_se (bin_add (bin_add (bin_mul (se_var 0) se_int) (bin_mul (se_var 1) se_int)) se_int)) se_int))
(sss_cons (ss_set 4 (bin_mod (int_se (bin_add (bin_add (bin_mul (se_var 3) se_int) (bin_mul (se_var 0) se_int)) (bin_mul (se_var 1) se_int))) se_int))
(sss_cons (ss_set 5 (bin_mod (int_se (bin_add (bin_mul (se_var 4) se_int) (bin_fdv (se_var 3) se_int))) se_int))
(sss_cons (ss_ret (bin_mod (int_se (se_var 5)) (se_var 2)))
sss_nil))))
theorem s_law_mixed : FnScope n_law_mixed ["_law_cell", "_law_turn", "_law_limit"] (defScope (top 6)) := ⟨rfl, rfl, rfl, by decide +kernel, rfl, by decide +kernel, by decide +kernel⟩
def n_law_draw : List Str := ["_law_pool_here", "_law_limit", "_law_digit", "_law_cell"]
abbrev g_law_draw (K : PySem.W.Frag) (cl : Cl) : Gam := { N := n_law_draw, sc := defScope (top 7), K := K, cl := cl, fs := ["_law_mixed"], bs := ["int", "len"], xs := [], es := es, hs := [], hot := false, ks := ks, ts := ts, gs := gs, df := df, gn := [], io := none, fr := false, fi := [], ff := [] }
theorem d_law_draw (K : PySem.W.Frag) (cl : Cl) : SSs (g_law_draw K cl) (defBody (top 7)) I_law_draw.body :=
(sss_cons (ss_iff (cmp_st cGt (pix_se 0 2) se_int rfl)
(sss_cons (ss_set 2 (bin_mod (int_se (pix_se 0 2)) (se_var 1)))
(sss_cons (ss_pput 0 2 (bin_fdv (pix_se 0 2) (se_var 1)))
(sss_cons (ss_ret (se_var 2))
sss_nil)))
sss_nil)
(sss_cons (ss_iff (cmp_st cGt (pix_se 0 4) se_int rfl)
(sss_cons (ss_pput 0 4 (bin_sub (pix_se 0 4) se_int))
(sss_cons (ss_ret (call_se (sg_cons (pix_se 0 3) (sg_cons (pix_se 0 4) (sg_cons (se_var 1) sg_nil)))))
sss_nil))
sss_nil)
(sss_cons (ss_iff (cmp_st cGe (pix_se 0 1) (plen_se 0) rfl)
(sss_cons (ss_ret se_int)
sss_nil)
sss_nil)
(sss_cons (ss_set 3 (pcel_se 0))
(sss_cons (ss_pput 0 1 (bin_add (pix_se 0 1) se_int))
(sss_cons (ss_iff (cmp_st cLt (se_var 3) se_int rfl)
(sss_cons (ss_set 3 (bin_sub (se_neg se_int) (se_var 3)))
sss_nil)
sss_nil)
(sss_cons (ss_iff (cmp_st cGe (se_var 3) (bin_pow se_int se_int) rfl)
(sss_cons (ss_pput 0 2 (bin_fdv (se_var 3) (se_var 1)))
(sss_cons (ss_ret (bin_mod (int_se (se_var 3)) (se_var 1)))
sss_nil))
sss_nil)
(sss_cons (ss_pput 0 3 (se_var 3))
(sss_cons (ss_pput 0 4 se_int)
(sss_cons (ss_ret (call_se (sg_cons (se_var 3) (sg_cons se_int (sg_cons (se_var 1) sg_nil)))))
sss_nil))))))))))
theorem s_law_draw : FnScope n_law_draw ["_law_pool_here", "_law_limit"] (defScope (top 7)) := ⟨rfl, rfl, rfl, by decide +kernel, rfl, by decide +kernel, by decide +kernel⟩
def n_law_is_int : List Str := ["_law_thing"]
abbrev g_law_is_int (K : PySem.W.Frag) (cl : Cl) : Gam := { N := n_law_is_int, sc := defScope (top 8), K := K, cl := cl, fs := [], bs := ["isinstance", "int", "bool"], xs := [], es := es, hs := [], hot := false, ks := ks, ts := ts, gs := gs, df := df, gn := [], io := none, fr := false, fi := [], ff := [] }
theorem d_law_is_int (K : PySem.W.Frag) (cl : Cl) : SSs (g_law_is_int K cl) (defBody (top 8)) I_law_is_int.body :=
(sss_cons (ss_ret (se_and (isi_se .int (se_var 0)) (se_one (se_not (isi_se .bool (se_var 0))))))
sss_nil)
theorem s_law_is_int : FnScope n_law_is_int ["_law_thing"] (defScope (top 8)) := ⟨rfl, rfl, rfl, by decide +kernel, rfl, by decide +kernel, by decide +kernel⟩
def n_law_same : List Str := ["_law_mine", "_law_due", "_law_k"]
abbrev g_law_same (K : PySem.W.Frag) (cl : Cl) : Gam := { N := n_law_same, sc := defScope (top 9), K := K, cl := cl, fs := ["_law_same", "_law_is_int"], bs := ["range", "len", "isinstance", "tuple", "list", "str", "int", "bool"], xs := [], es := es, hs := [], hot := false, ks := ks, ts := ts, gs := gs, df := df, gn := [], io := none, fr := false, fi := [], ff := [] }
theorem d_law_same (K : PySem.W.Frag) (cl : Cl) : SSs (g_law_same K cl) (defBody (top 9)) I_law_same.body :=
(sss_cons (ss_iff (cmp_st cIs (se_var 1) se_non rfl)
(sss_cons (ss_ret (cmp_se cIs (se_var 0) se_non rfl))
sss_nil)
sss_nil)
(sss_cons (ss_iff (st_se (isi_se .bool (se_var 1)))
(sss_cons (ss_ret (se_and (isi_se .bool (se_var 0)) (se_one (cmp_se cEq (se_var 0) (se_var 1) rfl))))
sss_nil)
sss_nil)
(sss_cons (ss_iff (st_se (isi_se .int (se_var 1)))
(sss_cons (ss_ret (se_and (call_se (sg_cons (se_var 0) sg_nil)) (se_one (cmp_se cEq (se_var 0) (se_var 1) rfl))))
sss_nil)
sss_nil)
(sss_cons (ss_iff (st_se (isi_se .str (se_var 1)))
(sss_cons (ss_ret (se_and (isi_se .str (se_var 0)) (se_one (cmp_se cEq (se_var 0) (se_var 1) rfl))))
sss_nil)
sss_nil)
(sss_cons (ss_iff (st_sw (sw_and (st_se (isi_se .list (se_var 1))) (sw_and1 (st_not (st_se (isi_se .list (se_var 0)))))))
(sss_cons (ss_ret se_bl)
sss_nil)
sss_nil)
(sss_cons (ss_iff (st_sw (sw_and (st_se (isi_se .tuple (se_var 1))) (sw_and1 (st_not (st_se (isi_se .tuple (se_var 0)))))))
(sss_cons (ss_ret se_bl)
sss_nil)
sss_nil)
(sss_cons (ss_iff (cmp_st cNe (len_se (se_var 0)) (len_se (se_var 1)) rfl)
(sss_cons (ss_ret se_bl)
sss_nil)
sss_nil)
(sss_cons (ss_for (si_rng1 (len_se (se_var 1))) (tg_one 2)
(sss_cons (ss_iff (st_not (st_se (call_se (sg_cons (ix_se (se_var 0) (se_var 2)) (sg_cons (ix_se (se_var 1) (se_var 2)) sg_nil)))))
(sss_cons (ss_ret se_bl)
sss_nil)
sss_nil)
sss_nil))
(sss_cons (ss_ret se_bl)
sss_nil)))))))))
theorem s_law_same : FnScope n_law_same ["_law_mine", "_law_due"] (defScope (top 9)) := ⟨rfl, rfl, rfl, by decide +kernel, rfl, by decide +kernel, by decide +kernel⟩
def n_law_grow : List Str := ["_law_pool_here", "_law_picks", "_law_options", "_law_leaves", "_law_option", "_law_pick"]
abbrev g_law_grow (K : PySem.W.Frag) (cl : Cl) : Gam := { N := n_law_grow, sc := defScope (top 10), K := K, cl := cl, fs := ["_law_draw"], bs := ["range", "len"], xs := [], es := es, hs := [], hot := false, ks := ks, ts := ts, gs := gs, df := df, gn := [], io := some 3, fr := false, fi := ["_law_grow"], ff := [] }
theorem d_law_grow (K : PySem.W.Frag) (cl : Cl) : SSs (g_law_grow K cl) (defBody (top 10)) I_law_grow.body :=
(sss_cons (ss_set 4 (ix_se (lst_se (sa_cons se_int (sa_cons se_int (sa_cons se_int (sa_cons se_int (sa_cons se_int (sa_cons se_int (sa_cons se_int (sa_cons se_int (sa_cons se_int (sa_cons se_int sa_nil))))))))))) (call_se (sg_pool 0 (sg_cons se_int sg_nil)))))
(sss_cons (ss_iff (cmp_st cGe (len_se (se_var 2)) se_int rfl)
(sss_cons (ss_set 4 se_int)
sss_nil)
sss_nil)
(sss_cons (ss_iff (cmp_st cEq (se_var 4) se_int rfl)
(sss_cons (ss_app 3 (lst_se (sa_cons (se_var 1) (sa_cons (se_var 2) sa_nil))))
sss_nil)
sss_nil)
(sss_cons (ss_for (si_rng1 (se_var 4)) (tg_one 5)
(sss_cons (ss_iff (cmp_st cLt (olen_se 3) se_int rfl)
(sss_cons (ss_dropc (sgi_pool 0 (sgi_cons (bin_add (se_var 1) (lst_se (sa_cons (se_var 5) sa_nil))) (sgi_cons (bin_add (se_var 2) (lst_se (sa_cons (se_var 4) sa_nil))) sgi_last))))
sss_nil)
sss_nil)
sss_nil))
sss_nil))))
theorem s_law_grow : FnScope n_law_grow ["_law_pool_here", "_law_picks", "_law_options", "_law_leaves"] (defScope (top 10)) := ⟨rfl, rfl, rfl, by decide +kernel, rfl, by decide +kernel, by decide +kernel⟩
def n_law_parting : List Str := ["_law_one", "_law_other", "_law_at"]
abbrev g_law_parting (K : PySem.W.Frag) (cl : Cl) : Gam := { N := n_law_parting, sc := defScope (top 11), K := K, cl := cl, fs := [], bs := ["len", "range"], xs := [], es := es, hs := [], hot := false, ks := ks, ts := ts, gs := gs, df := df, gn := [], io := none, fr := false, fi := [], ff := [] }
theorem d_law_parting (K : PySem.W.Frag) (cl : Cl) : SSs (g_law_parting K cl) (defBody (top 11)) I_law_parting.body :=
(sss_cons (ss_for (si_rng1 (len_se (se_var 0))) (tg_one 2)
(sss_cons (ss_iff (cmp_st cNe (ix_se (se_var 0) (se_var 2)) (ix_se (se_var 1) (se_var 2)) rfl)
(sss_cons (ss_ret (se_var 2))
sss_nil)
sss_nil)
sss_nil))
(sss_cons (ss_ret (len_se (se_var 0)))
sss_nil))
theorem s_law_parting : FnScope n_law_parting ["_law_one", "_law_other"] (defScope (top 11)) := ⟨rfl, rfl, rfl, by decide +kernel, rfl, by decide +kernel, by decide +kernel⟩
def n_law_follows : List Str := ["_law_picks", "_law_options", "_law_due", "_law_given", "_law_bounds", "_law_told"]
abbrev g_law_follows (K : PySem.W.Frag) (cl : Cl) : Gam := { N := n_law_follows, sc := defScope (top 12), K := K, cl := cl, fs := ["_law_same", "next_picks"], bs := ["list"], xs := [], es := es, hs := [], hot := false, ks := ks, ts := ts, gs := gs, df := df, gn := [], io := none, fr := false, fi := [], ff := ["next_picks"] }
theorem d_law_follows (K : PySem.W.Frag) (cl : Cl) : SSs (g_law_follows K cl) (defBody (top 12)) I_law_follows.body :=
(sss_cons (ss_set 3 (list_se (se_var 0)))
(sss_cons (ss_set 4 (list_se (se_var 1)))
(sss_cons (ss_setf 5 (sg_cons (se_var 3) (sg_cons (se_var 4) sg_nil)))
(sss_cons (ss_iff (st_lent [5] (st_sw (sw_or (st_not (st_se (call_se (sg_cons (se_var 5) (sg_cons (se_var 2) sg_nil))))) (sw_or (cmp_st cNe (se_var 3) (se_var 0) rfl) (sw_or1 (cmp_st cNe (se_var 4) (se_var 1) rfl))))))
(sss_cons (ss_ret se_bl)
sss_nil)
sss_nil)
(sss_cons (ss_iff (st_lent [5] (cmp_st cIsN (se_var 5) se_non rfl))
(sss_cons (ss_app 5 se_int)
(sss_cons (ss_oset 0 5 se_int)
sss_nil))
sss_nil)
(sss_cons (ss_ret (call_se (sg_cons (call_se (sg_cons (se_var 3) (sg_cons (se_var 4) sg_nil))) (sg_cons (se_var 2) sg_nil))))
sss_nil))))))
theorem s_law_follows : FnScope n_law_follows ["_law_picks", "_law_options", "_law_due"] (defScope (top 12)) := ⟨rfl, rfl, rfl, by decide +kernel, rfl, by decide +kernel, by decide +kernel⟩
def n_law_raised : List Str := ["_law_picks", "_law_options", "_law_full", "_law_k", "_law_found", "_law_at"]
abbrev g_law_raised (K : PySem.W.Frag) (cl : Cl) : Gam := { N := n_law_raised, sc := defScope (top 13), K := K, cl := cl, fs := [], bs := ["range", "len"], xs := [], es := es, hs := [], hot := false, ks := ks, ts := ts, gs := gs, df := df, gn := [], io := none, fr := false, fi := [], ff := [] }
theorem d_law_raised (K : PySem.W.Frag) (cl : Cl) : SSs (g_law_raised K cl) (defBody (top 13)) I_law_raised.body :=
(sss_cons (ss_set 2 (bin_add (se_var 0) (lc_se 3 (si_rng1 (bin_sub (len_se (se_var 1)) (len_se (se_var 0)))) sts_nil se_int)))
(sss_cons (ss_set 4 se_non)
(sss_cons (ss_for (si_rng1 (len_se (se_var 1))) (tg_one 5)
(sss_cons (ss_iff (cmp_st cLt (bin_add (ix_se (se_var 2) (se_var 5)) se_int) (ix_se (se_var 1) (se_var 5)) rfl)
(sss_cons (ss_set 4 (bin_add (sl_se (se_var 2) so_non (so_some (se_var 5))) (lst_se (sa_cons (bin_add (ix_se (se_var 2) (se_var 5)) se_int) sa_nil))))
sss_nil)
sss_nil)
sss_nil))
(sss_cons (ss_ret (se_var 4))
sss_nil))))
theorem s_law_raised : FnScope n_law_raised ["_law_picks", "_law_options"] (defScope (top 13)) := ⟨rfl, rfl, rfl, by decide +kernel, rfl, by decide +kernel, by decide +kernel⟩
def n_law_loose : List Str := ["_law_pool_here", "_law_options", "_law_picks", "_law_k", "_law_option", "_law_pick"]
abbrev g_law_loose (K : PySem.W.Frag) (cl : Cl) : Gam := { N := n_law_loose, sc := defScope (top 14), K := K, cl := cl, fs := ["_law_draw"], bs := ["len", "range"], xs := [], es := es, hs := [], hot := false, ks := ks, ts := ts, gs := gs, df := df, gn := [], io := none, fr := false, fi := [], ff := [] }
theorem d_law_loose (K : PySem.W.Frag) (cl : Cl) : SSs (g_law_loose K cl) (defBody (top 14)) I_law_loose.body :=
(sss_cons (ss_own 1 (lst_sf sa_nil))
(sss_cons (ss_own 2 (lst_sf sa_nil))
(sss_cons (ss_for (si_rng1 (call_se (sg_pool 0 (sg_cons se_int sg_nil)))) (tg_one 3)
(sss_cons (ss_app 1 (bin_add se_int (call_se (sg_pool 0 (sg_cons (ix_se (lst_se (sa_cons se_int (sa_cons se_int (sa_cons se_int (sa_cons (bin_pow se_int se_int) sa_nil))))) (call_se (sg_pool 0 (sg_cons se_int sg_nil)))) sg_nil)))))
sss_nil))
(sss_cons (ss_frz [1] (ss_for (si_seq (se_var 1)) (tg_one 4)
(sss_cons (ss_set 5 (bin_sub (se_var 4) se_int))
(sss_cons (ss_iff (cmp_st cEq (call_se (sg_pool 0 (sg_cons se_int sg_nil))) se_int rfl)
(sss_cons (ss_set 5 (call_se (sg_pool 0 (sg_cons (se_var 4) sg_nil))))
sss_nil)
sss_nil)
(sss_cons (ss_app 2 (se_var 5))
sss_nil)))))
(sss_cons (ss_frz [2, 1] (ss_ret (lst_se (sa_cons (sl_se (se_var 2) so_non (so_some (bin_sub (olen_se 2) (call_se (sg_pool 0 (sg_cons (bin_add (olen_se 2) se_int) sg_nil)))))) (sa_cons (se_var 1) sa_nil)))))
sss_nil)))))
theorem s_law_loose : FnScope n_law_loose ["_law_pool_here"] (defScope (top 14)) := ⟨rfl, rfl, rfl, by decide +kernel, rfl, by decide +kernel, by decide +kernel⟩
def n_law : List Str := ["_law_script", "_law_pool_here", "_law_leaves", "_law_now", "_law_k", "_law_due", "_law_full", "_law_options", "_law_after", "_law_picks"]
abbrev g_law (K : PySem.W.Frag) (cl : Cl) : Gam := { N := n_law, sc := defScope (top 15), K := K, cl := cl, fs := ["_law_follows", "_law_raised", "_law_loose", "_law_parting"], bs := ["range", "min", "len"], xs := [], es := es, hs := [], hot := false, ks := ks, ts := ts, gs := gs, df := df, gn := [], io := none, fr := false, fi := ["_law_grow"], ff := [] }
theorem d_law (K : PySem.W.Frag) (cl : Cl) : SSs (g_law K cl) (defBody (top 15)).tail I_law.body :=
(sss_cons (ss_own 2 (lst_sf sa_nil))
(sss_cons (ss_dropc (sgi_pool 1 (sgi_cons (lst_se sa_nil) (sgi_cons (lst_se sa_nil) sgi_last))))
(sss_cons (ss_set 3 (lst_se sa_nil))
(sss_cons (ss_for (si_rng1 (mn2_se se_int (olen_se 2))) (tg_one 4)
(sss_cons (ss_frz [2] (ss_unp (ix_se (se_var 2) (se_var 4)) (tg_many (sgs_cons 6 (sgs_cons 7 sgs_nil)))))
(sss_cons (ss_set 5 se_non)
(sss_cons (ss_iff (cmp_st cLt (bin_add (se_var 4) se_int) (olen_se 2) rfl)
(sss_cons (ss_frz [2] (ss_set 8 (ix_se (ix_se (se_var 2) (bin_add (se_var 4) se_int)) se_int)))
(sss_cons (ss_set 5 (sl_se (se_var 8) so_non (so_some (bin_add (call_se (sg_cons (se_var 6) (sg_cons (se_var 8) sg_nil))) se_int))))
sss_nil))
sss_nil)
(sss_cons (ss_iff (st_sw (sw_or (st_not (st_se (call_se (sg_cons (se_var 3) (sg_cons (se_var 7) (sg_cons (se_var 5) sg_nil)))))) (sw_or1 (st_not (st_se (call_se (sg_cons (se_var 6) (sg_cons (se_var 7) (sg_cons (se_var 5) sg_nil)))))))))
(sss_cons (ss_ret se_bl)
sss_nil)
sss_nil)
(sss_cons (ss_set 3 (se_var 5))
sss_nil))))))
(sss_cons (ss_for (si_rng1 se_int) (tg_one 4)
(sss_cons (ss_unp (call_se (sg_pool 1 sg_nil)) (tg_many (sgs_cons 9 (sgs_cons 7 sgs_nil))))
(sss_cons (ss_iff (st_not (st_se (call_se (sg_cons (se_var 9) (sg_cons (se_var 7) (sg_cons (call_se (sg_cons (se_var 9) (sg_cons (se_var 7) sg_nil))) sg_nil))))))
(sss_cons (ss_ret se_bl)
sss_nil)
sss_nil)
sss_nil)))
(sss_cons (ss_ret se_bl)
sss_nil))))))
theorem s_law : FnScope n_law ["_law_script"] (defScope (top 15)) := ⟨rfl, rfl, rfl, by decide +kernel, rfl, by decide +kernel, by decide +kernel⟩
end K25

set_option Elab.async false
set_option linter.all false
set_option maxRecDepth 100000
set_option maxHeartbeats 4000000
namespace K25
open PySem Ip
/-! The defs by their names, to a depth of calls. -/
def tb : Nat → Cl
  | 0 => noCl
  | n + 1 => fun f as st =>
    if f = "next_picks" then runI 2 (tb n) I_next_picks as st else
    if f = "pick_at" then runI 2 (tb n) I_pick_at as st else
    if f = "filled_picks" then runI 2 (tb n) I_filled_picks as st else
    if f = "_law_mixed" then runI 3 (tb n) I_law_mixed as st else
    if f = "_law_draw" then runI 2 (tb n) I_law_draw as st else
    if f = "_law_is_int" then runI 1 (tb n) I_law_is_int as st else
    if f = "_law_same" then runI 2 (tb n) I_law_same as st else
    if f = ioN "_law_grow" then runIO 4 (tb n) I_law_grow as st else
    if f = "_law_parting" then runI 2 (tb n) I_law_parting as st else
    if f = "_law_follows" then runI 3 (tb n) I_law_follows as st else
    if f = "_law_raised" then runI 2 (tb n) I_law_raised as st else
    if f = "_law_loose" then runI 1 (tb n) I_law_loose as st else
    none
theorem tb_law_grow (n : Nat) (as : List (Option PyData)) (st : Pl) : tb (n + 1) (ioN "_law_grow") as st = runIO 4 (tb n) I_law_grow as st := by rfl
theorem tb_next_picks (n : Nat) (as : List (Option PyData)) (st : Pl) : tb (n + 1) "next_picks" as st = runI 2 (tb n) I_next_picks as st := by rfl
theorem tb_pick_at (n : Nat) (as : List (Option PyData)) (st : Pl) : tb (n + 1) "pick_at" as st = runI 2 (tb n) I_pick_at as st := by rfl
theorem tb_filled_picks (n : Nat) (as : List (Option PyData)) (st : Pl) : tb (n + 1) "filled_picks" as st = runI 2 (tb n) I_filled_picks as st := by rfl
theorem tb_law_mixed (n : Nat) (as : List (Option PyData)) (st : Pl) : tb (n + 1) "_law_mixed" as st = runI 3 (tb n) I_law_mixed as st := by rfl
theorem tb_law_draw (n : Nat) (as : List (Option PyData)) (st : Pl) : tb (n + 1) "_law_draw" as st = runI 2 (tb n) I_law_draw as st := by rfl
theorem tb_law_is_int (n : Nat) (as : List (Option PyData)) (st : Pl) : tb (n + 1) "_law_is_int" as st = runI 1 (tb n) I_law_is_int as st := by rfl
theorem tb_law_same (n : Nat) (as : List (Option PyData)) (st : Pl) : tb (n + 1) "_law_same" as st = runI 2 (tb n) I_law_same as st := by rfl
theorem tb_law_parting (n : Nat) (as : List (Option PyData)) (st : Pl) : tb (n + 1) "_law_parting" as st = runI 2 (tb n) I_law_parting as st := by rfl
theorem tb_law_follows (n : Nat) (as : List (Option PyData)) (st : Pl) : tb (n + 1) "_law_follows" as st = runI 3 (tb n) I_law_follows as st := by rfl
theorem tb_law_raised (n : Nat) (as : List (Option PyData)) (st : Pl) : tb (n + 1) "_law_raised" as st = runI 2 (tb n) I_law_raised as st := by rfl
theorem tb_law_loose (n : Nat) (as : List (Option PyData)) (st : Pl) : tb (n + 1) "_law_loose" as st = runI 1 (tb n) I_law_loose as st := by rfl
end K25

set_option Elab.async false
set_option linter.all false
set_option maxRecDepth 100000
set_option maxHeartbeats 4000000
namespace K25
open PySem Ip L2 Cm
/-! The next list of picks, over data. -/
abbrev iD (ns : List Int) : List D := ns.map PyData.int
theorem m10 {n : Nat} (h : n ≤ 1000) : n ≤ most := Nat.le_trans h (by decide)
theorem cut_to (es : List D) (i : Nat) : cutD es none (some (i : Int)) = es.take i := by
  unfold cutD
  rw [HT.sIx_none, HT.sIx_nat, List.drop_zero, Nat.sub_zero]
  by_cases h : i ≤ es.length
  · rw [Nat.min_eq_left h]
  · rw [Nat.min_eq_right (by omega), List.take_of_length_le (Nat.le_refl _), List.take_of_length_le (by omega)]
theorem iD_at {ns : List Int} {k : Nat} {n : Int} (h : ns[k]? = some n) : ixD (.list (iD ns)) (.int (k : Int)) = some (.int n) := by
  have hl := (List.getElem?_eq_some_iff.mp h).1
  show atI (iD ns) (k : Int) = _
  rw [atI_of (by omega) (by simp only [List.length_map]; omega)]
  have e2 := (List.getElem?_eq_some_iff.mp h).2
  simp [e2]
@[simp] theorem c_lt (a b : Int) : cmpD .lt (.int a) (.int b) = some (decide (a < b)) := rfl
@[simp] theorem c_ge (a b : Int) : cmpD .ge (.int a) (.int b) = some (decide (b ≤ a)) := rfl
@[simp] theorem c_eqi (a b : Int) : cmpD .eq (.int a) (.int b) = some (decide (a = b)) := rfl
@[simp] theorem c_nei (a b : Int) : cmpD .ne (.int a) (.int b) = some (!decide (a = b)) := rfl
@[simp] theorem b_add (a b : Int) : binD .add (.int a) (.int b) = some (.int (a + b)) := rfl
@[simp] theorem b_sub (a b : Int) : binD .sub (.int a) (.int b) = some (.int (a - b)) := rfl
def pk (p : List Int) (i : Nat) : Int := p.getD i 0
def fl (p : List Int) (n : Nat) : List Int := (List.range n).map (pk p)
theorem fl_eq (p : List Int) (n : Nat) : fl p n = p.take n ++ List.replicate (n - p.length) 0 := by
  unfold fl pk
  apply List.ext_getElem
  · simp
    omega
  · intro i h1 h2
    simp at h1
    by_cases c : i < p.length
    · rw [List.getElem_append_left (by simp; omega)]
      simp [c]
    · rw [List.getElem_append_right (by simp; omega)]
      simp [Nat.le_of_not_lt c]
def nxtA (f : Nat → Int) (o : List Int) : Nat → Option (List Int)
  | 0 => none
  | n + 1 => if f n + 1 < o.getD n 0 then some ((List.range n).map f ++ [f n + 1]) else nxtA f o n
def nxt (p o : List Int) : Option (List Int) := nxtA (pk p) o o.length
def ofO : Option (List Int) → D
  | none => .none
  | some l => .list (iD l)
theorem pick_run (cl : Cl) (p : List Int) (n : Nat) (st : Pl) : runI 2 cl I_pick_at [some (.list (iD p)), some (.int (n : Int))] st = some (.int (pk p n), st) := by
  unfold pk
  have hl : (iD p).length = p.length := List.length_map ..
  by_cases c : n < p.length
  · have h := iD_at (List.getElem?_eq_getElem c)
    have e : p.getD n 0 = p[n] := by simp [c]
    rw [e]
    have c' : (n : Int) < (p.length : Int) := by omega
    generalize p[n] = v at *
    generalize iD p = P at *
    simp [runI, runF, I_pick_at, slOf, Cst.d, biD, hl, c, h]
  · have e : p.getD n 0 = 0 := by simp [Nat.le_of_not_lt c]
    rw [e]
    generalize iD p = P at *
    simp [runI, runF, I_pick_at, slOf, Cst.d, biD, hl, c]
theorem rep_flat {α : Type} (a : α) : ∀ n : Nat, (List.replicate n [a]).flatten = List.replicate n a
  | 0 => rfl
  | n + 1 => by rw [List.replicate_succ, List.flatten_cons, rep_flat a n]; rfl
theorem rep_ev {cl : Cl} {a b : IE} {env : List Sl} {st st1 st2 : Pl} {xs : List D} {k : Int} (e1 : ev cl a env st = some (.list xs, st1)) (e2 : ev cl b env st1 = some (.int k, st2)) (h : -(2 ^ 62) ≤ k ∧ k < 2 ^ 62 ∧ xs.length * k.toNat ≤ most) : ev cl (.rep a b) env st = some (.list (List.replicate k.toNat xs).flatten, st2) := by
  unfold ev
  rw [e1]
  simp only [e2]
  rw [if_pos h]
theorem filled_run (cl : Cl) (q : List Int) (n : Nat) (st : Pl) (hq : q.length ≤ 200) (hn : n ≤ 200) : runI 2 cl I_filled_picks [some (.list (iD q)), some (.int (n : Int))] st = some (.list (iD (q ++ List.replicate (n - q.length) 0)), st) := by
  have m1 : (1 : Nat) ≤ most := by decide
  have hl : (iD q).length = q.length := List.length_map ..
  have hc : iD (q ++ List.replicate (n - q.length) 0) = iD q ++ List.replicate (n - q.length) (.int 0) := by simp [iD]
  have hk : ((n : Int) - (q.length : Int)).toNat = n - q.length := by omega
  rw [hc]
  have e1 : ev cl (.rep (.lst (.cons (.cst (.int 0)) .nil)) (.bin .sub (.var 1) (.bi .len (.cons (.var 0) .nil)))) [.im (.list (iD q)), .im (.int (n : Int))] st = some (.list (List.replicate (n - q.length) (.int 0)), st) := by
    rw [rep_ev (xs := [.int 0]) (k := (n : Int) - (q.length : Int)) (st1 := st) (st2 := st) ?_ ?_ ⟨by omega, by omega, by rw [hk]; exact m10 (by show 1 * _ ≤ _; omega)⟩, hk, rep_flat]
    · simp [Cst.d, m1]
    · generalize iD q = Q at *
      simp [Cst.d, biD, hl]
  have e2 : binD .add (.list (iD q)) (.list (List.replicate (n - q.length) (.int 0))) = some (.list (iD q ++ List.replicate (n - q.length) (.int 0))) := if_pos (m10 (by rw [hl, List.length_replicate]; omega))
  generalize iD q = Q at *
  generalize List.replicate (n - q.length) (PyData.int 0) = R at *
  simp [runI, runF, I_filled_picks, slOf, biD, e1, e2]
def PPick (cl : Cl) : Prop := ∀ (p : List Int) (n : Nat) (st : Pl), cl "pick_at" [some (.list (iD p)), some (.int (n : Int))] st = some (.int (pk p n), st)
def PFill (cl : Cl) : Prop := ∀ (q : List Int) (n : Nat) (st : Pl), q.length ≤ 200 → n ≤ 200 → cl "filled_picks" [some (.list (iD q)), some (.int (n : Int))] st = some (.list (iD (q ++ List.replicate (n - q.length) 0)), st)
abbrev nextB : ISs := (.cons (.set 3 (.call "pick_at" (.cons (.var 0) (.cons (.var 2) .nil))))
  (.cons (.iff (.cmp .lt (.bin .add (.var 3) (.cst (.int 1))) (.ix (.var 1) (.var 2))) (.cons (.retf (.bin .add (.call "filled_picks" (.cons (.sl (.var 0) .non (.some (.var 2))) (.cons (.var 2) .nil))) (.lst (.cons (.bin .add (.var 3) (.cst (.int 1))) .nil))))
  .nil) .nil)
  .nil))
theorem run_of {n : Nat} {cl : Cl} {I : IF} {as : List (Option D)} {st st' : Pl} {d : D} {env : List Sl} (hl : as.length = n) (he : as.map slOf ++ List.replicate (I.n - as.length) .no = env) (h : evSs cl I.body env st = some (.rt d st')) : runI n cl I as st = some (d, st') := by
  unfold runI runF
  rw [if_pos hl, he, h]
theorem forG_c {f : D → List Sl → Pl → Option Out} (d : D) (ds : List D) (env : List Sl) (st : Pl) : forG f (d :: ds) env st = match f d env st with
    | some (.nx e s) => forG f ds e s
    | some (.ct e s) => forG f ds e s
    | some (.bk e s) => some (.nx e s)
    | some (.rt v s) => some (.rt v s)
    | none => none := rfl
theorem next_loop {cl : Cl} (h1 : PPick cl) (h2 : PFill cl) (p o : List Int) (st : Pl) (hp : p.length ≤ 200) (ho : o.length ≤ 200) : ∀ n : Nat, n ≤ o.length → ∀ x2 x3 : Sl,
    (∀ l, nxtA (pk p) o n = some l → forG (fb cl (.one 2) nextB) ((List.range n).map fun (i : Nat) => PyData.int ((n : Int) - 1 - (i : Int))) [.im (.list (iD p)), .im (.list (iD o)), x2, x3] st = some (.rt (.list (iD l)) st)) ∧
    (nxtA (pk p) o n = none → ∃ y2 y3, forG (fb cl (.one 2) nextB) ((List.range n).map fun (i : Nat) => PyData.int ((n : Int) - 1 - (i : Int))) [.im (.list (iD p)), .im (.list (iD o)), x2, x3] st = some (.nx [.im (.list (iD p)), .im (.list (iD o)), y2, y3] st))
  | 0, _, x2, x3 => ⟨(fun l h => by cases h), fun _ => ⟨x2, x3, rfl⟩⟩
  | n + 1, hn, x2, x3 => by
    have m1 : (1 : Nat) ≤ most := by decide
    have el : ((List.range (n + 1)).map fun (i : Nat) => PyData.int (((n + 1 : Nat) : Int) - 1 - (i : Int))) = .int (n : Int) :: ((List.range n).map fun (i : Nat) => PyData.int ((n : Int) - 1 - (i : Int))) := by
      rw [List.range_succ_eq_map, List.map_cons, List.map_map]
      congr 1
      · congr 1
        omega
      · apply List.map_congr_left
        intro i _
        show PyData.int _ = PyData.int _
        congr 1
        omega
    rw [el]
    have hon : o[n]? = some (o[n]'(by omega)) := List.getElem?_eq_getElem _
    have hog : o.getD n 0 = o[n]'(by omega) := by rw [List.getD_eq_getElem?_getD, hon]; rfl
    have i1 := iD_at hon
    have e1 := h1 p n st
    have hcut := cut_to (iD p) n
    have htk : (iD p).take n = iD (p.take n) := by simp [iD]
    rw [htk] at hcut
    have e2 := h2 (p.take n) n st (by rw [List.length_take]; omega) (by omega)
    have ef : (p.take n ++ List.replicate (n - (p.take n).length) 0) = (List.range n).map (pk p) := by
      have := fl_eq p n
      unfold fl at this
      rw [this, List.length_take]
      congr 2
      omega
    rw [ef] at e2
    have ih := next_loop h1 h2 p o st hp ho n (by omega) (.im (.int (n : Int))) (.im (.int (pk p n)))
    have eA : nxtA (pk p) o (n + 1) = if pk p n + 1 < o[n]'(by omega) then some ((List.range n).map (pk p) ++ [pk p n + 1]) else nxtA (pk p) o n := by
      show (if pk p n + 1 < o.getD n 0 then _ else _) = _
      rw [hog]
    rw [eA]
    have ea : binD .add (.list (iD ((List.range n).map (pk p)))) (.list [.int (pk p n + 1)]) = some (.list (iD ((List.range n).map (pk p)) ++ [.int (pk p n + 1)])) := if_pos (m10 (by simp; omega))
    have ei : iD ((List.range n).map (pk p) ++ [pk p n + 1]) = iD ((List.range n).map (pk p)) ++ [.int (pk p n + 1)] := by simp [iD]
    generalize (o[n]'(by omega)) = on at *
    generalize pk p n = v at *
    by_cases c : v + 1 < on
    · rw [if_pos c]
      refine ⟨fun l h => ?_, fun h => by cases h⟩
      cases h
      rw [forG_c, ei]
      have e3 : fb cl (.one 2) nextB (.int (n : Int)) [.im (.list (iD p)), .im (.list (iD o)), x2, x3] st = some (.rt (.list (iD ((List.range n).map (pk p)) ++ [.int (v + 1)])) st) := by
        generalize iD ((List.range n).map (pk p)) = X at *
        generalize iD (p.take n) = Y at *
        generalize iD p = P at *
        generalize iD o = O at *
        simp [fb_eq, sgD, Cst.d, slD, e1, i1, c, hcut, e2, m1, ea]
      rw [e3]
    · rw [if_neg c]
      rw [forG_c]
      have e3 : fb cl (.one 2) nextB (.int (n : Int)) [.im (.list (iD p)), .im (.list (iD o)), x2, x3] st = some (.nx [.im (.list (iD p)), .im (.list (iD o)), .im (.int (n : Int)), .im (.int v)] st) := by
        generalize iD p = P at *
        generalize iD o = O at *
        simp [fb_eq, sgD, Cst.d, e1, i1, c]
      rw [e3]
      exact ih
def PNext (cl : Cl) : Prop := ∀ (p o : List Int) (st : Pl), p.length ≤ 200 → o.length ≤ 200 → cl "next_picks" [some (.list (iD p)), some (.list (iD o))] st = some (ofO (nxt p o), st)
theorem next_run {cl : Cl} (h1 : PPick cl) (h2 : PFill cl) (p o : List Int) (st : Pl) (hp : p.length ≤ 200) (ho : o.length ≤ 200) : runI 2 cl I_next_picks [some (.list (iD p)), some (.list (iD o))] st = some (ofO (nxt p o), st) := by
  have hl : (iD o).length = o.length := List.length_map ..
  have hrg : rngN ((o.length : Int) - 1) (-1) = some ((List.range o.length).map fun (i : Nat) => PyData.int ((o.length : Int) - 1 - (i : Int))) := by
    unfold rngN
    rw [if_pos ⟨by omega, by omega, by omega, by omega⟩]
    rw [show ((o.length : Int) - 1 - (-1)).toNat = o.length by omega]
  have key := next_loop h1 h2 p o st hp ho o.length (Nat.le_refl _) .no .no
  cases hx : nxt p o with
  | some l =>
    have e := key.1 l hx
    show _ = some (PyData.list (iD l), st)
    generalize iD l = L at *
    generalize ((List.range o.length).map fun (i : Nat) => PyData.int ((o.length : Int) - 1 - (i : Int))) = R at *
    generalize iD p = P at *
    generalize iD o = O at *
    simp [runI, runF, I_next_picks, slOf, Cst.d, biD, hl, hrg, e]
  | none =>
    obtain ⟨y2, y3, e⟩ := key.2 hx
    show _ = some (PyData.none, st)
    generalize ((List.range o.length).map fun (i : Nat) => PyData.int ((o.length : Int) - 1 - (i : Int))) = R at *
    generalize iD p = P at *
    generalize iD o = O at *
    simp [runI, runF, I_next_picks, slOf, Cst.d, biD, hl, hrg, e]
end K25

set_option Elab.async false
set_option linter.all false
set_option maxRecDepth 100000
set_option maxHeartbeats 4000000
namespace K25
open PySem Ip L2 Cm
/-! What the law says of the next list; loose lists. -/
@[simp] theorem c_noNl (xs : List D) : cmpD .noN (.list xs) .none = some true := rfl
@[simp] theorem c_noNn : cmpD .noN .none .none = some false := rfl
theorem fl_take (p : List Int) {n m : Nat} (h : n ≤ m) : (fl p m).take n = fl p n := by
  unfold fl
  rw [← List.map_take, List.take_range, Nat.min_eq_left h]
theorem fl_at (p : List Int) {n m : Nat} (h : n < m) : (fl p m)[n]? = some (pk p n) := by
  unfold fl
  simp [h]
theorem nxtA_len {f : Nat → Int} {o : List Int} : ∀ {n : Nat} {l : List Int}, nxtA f o n = some l → l.length ≤ n
  | 0, l, h => by cases h
  | n + 1, l, h => by
    unfold nxtA at h
    split at h
    · cases h
      simp
    · have := nxtA_len h
      omega
theorem fm_const {α β : Type} (c : β) : ∀ xs : List α, xs.filterMap (fun _ => some c) = List.replicate xs.length c
  | [] => rfl
  | x :: xs => by
    rw [List.filterMap_cons, fm_const c xs]
    rfl
def PRaised (cl : Cl) : Prop := ∀ (p o : List Int) (st : Pl), p.length ≤ o.length → o.length ≤ 200 → cl "_law_raised" [some (.list (iD p)), some (.list (iD o))] st = some (ofO (nxt p o), st)
theorem raised_run (cl : Cl) (p o : List Int) (st : Pl) (hp : p.length ≤ o.length) (ho : o.length ≤ 200) : runI 2 cl I_law_raised [some (.list (iD p)), some (.list (iD o))] st = some (ofO (nxt p o), st) := by
  have m1 : (1 : Nat) ≤ most := by decide
  have hlo : (iD o).length = o.length := List.length_map ..
  have hlp : (iD p).length = p.length := List.length_map ..
  have hr1 := rngD_nat (n := (o.length : Int) - (p.length : Int)) (by omega) (by omega)
  have hlm : ((List.range ((o.length : Int) - (p.length : Int)).toNat).map fun (k : Nat) => PyData.int (k : Int)).length ≤ most := m10 (by simp; omega)
  have lc : ∀ (env : List Sl), lcG (lb cl 3 .nil (.cst (.int 0)) env) ((List.range ((o.length : Int) - (p.length : Int)).toNat).map fun (k : Nat) => PyData.int (k : Int)) st = some (List.replicate (o.length - p.length) (.int 0), st) := fun env => by
    rw [lcG_pure (g := fun _ => some (.int 0)) (fun d _ => by simp [lb_eq, Cst.d])]
    congr 2
    rw [fm_const, List.length_map, List.length_range]
    rw [show ((o.length : Int) - (p.length : Int)).toNat = o.length - p.length by omega]
  have hF : iD p ++ List.replicate (o.length - p.length) (.int 0) = iD (fl p o.length) := by
    rw [fl_eq, List.take_of_length_le hp]
    simp [iD]
  have hadd : binD .add (.list (iD p)) (.list (List.replicate (o.length - p.length) (.int 0))) = some (.list (iD (fl p o.length))) := by
    rw [← hF]
    exact if_pos (m10 (by rw [hlp, List.length_replicate]; omega))
  have hr2 := rngD_nat (n := (o.length : Int)) (by omega) (by omega)
  rw [Int.toNat_natCast] at hr2
  have lp : ∀ x5 : Sl, ∃ y5, forG (fb cl (.one 5) (.cons (.iff (.cmp .lt (.bin .add (.ix (.var 2) (.var 5)) (.cst (.int 1))) (.ix (.var 1) (.var 5))) (.cons (.set 4 (.bin .add (.sl (.var 2) .non (.some (.var 5))) (.lst (.cons (.bin .add (.ix (.var 2) (.var 5)) (.cst (.int 1))) .nil))))
  .nil) .nil)
  .nil)) ((List.range o.length).map fun (k : Nat) => PyData.int (k : Int)) [.im (.list (iD p)), .im (.list (iD o)), .im (.list (iD (fl p o.length))), .no, .im .none, x5] st = some (.nx [.im (.list (iD p)), .im (.list (iD o)), .im (.list (iD (fl p o.length))), .no, .im (ofO (nxt p o)), y5] st) := fun x5 => by
    obtain ⟨env', st', e, y5, rfl, rfl⟩ := forG_nx (f := fb cl (.one 5) (.cons (.iff (.cmp .lt (.bin .add (.ix (.var 2) (.var 5)) (.cst (.int 1))) (.ix (.var 1) (.var 5))) (.cons (.set 4 (.bin .add (.sl (.var 2) .non (.some (.var 5))) (.lst (.cons (.bin .add (.ix (.var 2) (.var 5)) (.cst (.int 1))) .nil))))
  .nil) .nil)
  .nil)) (fun i env s => ∃ y5, env = [.im (.list (iD p)), .im (.list (iD o)), .im (.list (iD (fl p o.length))), .no, .im (ofO (nxtA (pk p) o i)), y5] ∧ s = st) ((List.range o.length).map fun (k : Nat) => PyData.int (k : Int)) [.im (.list (iD p)), .im (.list (iD o)), .im (.list (iD (fl p o.length))), .no, .im .none, x5] st ⟨_, rfl, rfl⟩
      (fun i d env s hi ⟨y5, q1, q2⟩ => by
        subst q1
        subst q2
        obtain ⟨hi2, rfl⟩ := rng_at hi
        have hon : o[i]? = some o[i] := List.getElem?_eq_getElem hi2
        have hog : o.getD i 0 = o[i] := by rw [List.getD_eq_getElem?_getD, hon]; rfl
        have i1 := iD_at hon
        have i2 := iD_at (fl_at p hi2)
        have hcut := cut_to (iD (fl p o.length)) i
        have htk : (iD (fl p o.length)).take i = iD (fl p i) := by rw [← fl_take p (Nat.le_of_lt hi2)]; simp [iD]
        rw [htk] at hcut
        have eA : nxtA (pk p) o (i + 1) = if pk p i + 1 < o[i] then some (fl p i ++ [pk p i + 1]) else nxtA (pk p) o i := by
          show (if pk p i + 1 < o.getD i 0 then _ else _) = _
          rw [hog]
          rfl
        have ea : binD .add (.list (iD (fl p i))) (.list [.int (pk p i + 1)]) = some (.list (iD (fl p i) ++ [.int (pk p i + 1)])) := if_pos (m10 (by simp [fl]; omega))
        have ei : iD (fl p i ++ [pk p i + 1]) = iD (fl p i) ++ [.int (pk p i + 1)] := by simp [iD]
        rw [eA]
        generalize o[i] = on at *
        generalize pk p i = v at *
        by_cases c : v + 1 < on
        · rw [if_pos c]
          refine ⟨[.im (.list (iD p)), .im (.list (iD o)), .im (.list (iD (fl p o.length))), .no, .im (.list (iD (fl p i) ++ [.int (v + 1)])), .im (.int i)], s, ?_, _, by rw [← ei]; rfl, rfl⟩
          generalize iD (fl p i) = X at *
          generalize iD (fl p o.length) = Y at *
          generalize iD p = P at *
          generalize iD o = O at *
          simp [fb_eq, sgD, Cst.d, slD, i1, i2, c, hcut, m1, ea]
        · rw [if_neg c]
          refine ⟨[.im (.list (iD p)), .im (.list (iD o)), .im (.list (iD (fl p o.length))), .no, .im (ofO (nxtA (pk p) o i)), .im (.int i)], s, ?_, _, rfl, rfl⟩
          generalize iD (fl p o.length) = Y at *
          generalize iD p = P at *
          generalize iD o = O at *
          simp [fb_eq, sgD, Cst.d, i1, i2, c])
    simp only [List.length_map, List.length_range] at e
    exact ⟨y5, e⟩
  obtain ⟨y5, e⟩ := lp .no
  generalize ofO (nxt p o) = z at *
  generalize iD (fl p o.length) = Y at *
  generalize ((List.range o.length).map fun (k : Nat) => PyData.int (k : Int)) = R2 at *
  generalize ((List.range ((o.length : Int) - (p.length : Int)).toNat).map fun (k : Nat) => PyData.int (k : Int)) = R1 at *
  generalize List.replicate (o.length - p.length) (PyData.int 0) = Z at *
  generalize iD p = P at *
  generalize iD o = O at *
  simp [runI, runF, I_law_raised, slOf, Cst.d, biD, hlo, hlp, hr1, hlm, lc, hadd, hr2, e]
/-! ### the first place where two lists differ -/
def PPart (cl : Cl) : Prop := ∀ (q : List Int) (x y : Int) (r t : List Int) (st : Pl), x ≠ y → (q ++ x :: r).length ≤ 200 → cl "_law_parting" [some (.list (iD (q ++ x :: r))), some (.list (iD (q ++ y :: t)))] st = some (.int q.length, st)
theorem part_run (cl : Cl) (q : List Int) (x y : Int) (r t : List Int) (st : Pl) (hxy : x ≠ y) (hl : (q ++ x :: r).length ≤ 200) : runI 2 cl I_law_parting [some (.list (iD (q ++ x :: r))), some (.list (iD (q ++ y :: t)))] st = some (.int q.length, st) := by
  have hla : (iD (q ++ x :: r)).length = (q ++ x :: r).length := List.length_map ..
  have hr2 := rngD_nat (n := ((q ++ x :: r).length : Int)) (by omega) (by omega)
  rw [Int.toNat_natCast] at hr2
  have a1 : (q ++ x :: r)[q.length]? = some x := by simp
  have b1 : (q ++ y :: t)[q.length]? = some y := by simp
  have ab : ∀ i, i < q.length → (q ++ x :: r)[i]? = some (q.getD i 0) ∧ (q ++ y :: t)[i]? = some (q.getD i 0) := fun i h => by
    rw [List.getElem?_append_left h, List.getElem?_append_left h]
    simp [h]
  have hql : q.length < (q ++ x :: r).length := by simp
  generalize q ++ x :: r = a at *
  generalize q ++ y :: t = b at *
  rcases forG_or0 (f := fb cl (.one 2) (.cons (.iff (.cmp .ne (.ix (.var 0) (.var 2)) (.ix (.var 1) (.var 2))) (.cons (.ret (.var 2))
  .nil) .nil)
  .nil)) (fun i env s => i ≤ q.length ∧ ∃ y2, env = [.im (.list (iD a)), .im (.list (iD b)), y2] ∧ s = st) (fun v s => v = .int q.length ∧ s = st) ((List.range a.length).map fun (k : Nat) => PyData.int (k : Int)) [.im (.list (iD a)), .im (.list (iD b)), .no] st ⟨Nat.zero_le _, _, rfl, rfl⟩
    (fun i d env s hi ⟨hq, y2, q1, q2⟩ => by
      subst q1
      subst q2
      obtain ⟨hi2, rfl⟩ := rng_at hi
      by_cases c : i = q.length
      · subst c
        have i1 := iD_at a1
        have i2 := iD_at b1
        refine .inr ⟨.int q.length, s, ?_, rfl, rfl⟩
        generalize iD a = A at *
        generalize iD b = B at *
        simp [fb_eq, sgD, i1, i2, hxy]
      · obtain ⟨c1, c2⟩ := ab i (by omega)
        have i1 := iD_at c1
        have i2 := iD_at c2
        refine .inl ⟨[.im (.list (iD a)), .im (.list (iD b)), .im (.int i)], s, .inl ?_, by omega, _, rfl, rfl⟩
        generalize iD a = A at *
        generalize iD b = B at *
        simp [fb_eq, sgD, i1, i2]) with ⟨env', st', e, h1, _⟩ | ⟨v, st', e, rfl, rfl⟩
  · simp only [List.length_map, List.length_range] at h1
    omega
  · generalize ((List.range a.length).map fun (k : Nat) => PyData.int (k : Int)) = R at *
    generalize iD a = A at *
    generalize iD b = B at *
    have hb1 : biD .len [.list A] = some (.int a.length) := by
      rw [← hla]
      rfl
    refine run_of (env := [.im (.list A), .im (.list B), .no]) rfl rfl ?_
    simp [I_law_parting, hb1, hr2, e]
/-! ### next_picks is held against what is due -/
theorem lay_i : ∀ ns : List Int, PyData.canLayAll0 (iD ns) = true ∧ PyData.depthAll (iD ns) ≤ 1
  | [] => ⟨rfl, Nat.zero_le _⟩
  | n :: ns => by
    obtain ⟨a, b⟩ := lay_i ns
    refine ⟨?_, ?_⟩
    · show (PyData.canLay0 (.int n) && PyData.canLayAll0 (iD ns)) = true
      rw [a]
      rfl
    · show max (PyData.depth (.int n)) (PyData.depthAll (iD ns)) ≤ 1
      have : PyData.depth (.int n) ≤ 1 := by simp [PyData.depth]
      omega
theorem ne_self (ns : List Int) : cmpD .ne (.list (iD ns)) (.list (iD ns)) = some false := by
  obtain ⟨a, b⟩ := lay_i ns
  have sh : SeqAt.shaped (.list (iD ns)) = true := by
    show (PyData.canLay0 (.list (iD ns)) && decide (PyData.depth (.list (iD ns)) ≤ 64)) = true
    rw [show PyData.canLay0 (.list (iD ns)) = PyData.canLayAll0 (iD ns) from rfl, a, decide_eq_true (by show PyData.depthAll (iD ns) + 1 ≤ 64; omega)]
    rfl
  show (eqD (.list (iD ns)) (.list (iD ns))).map (!·) = _
  have : eqD (.list (iD ns)) (.list (iD ns)) = some true := by
    show (if SeqAt.shaped (.list (iD ns)) = true ∧ SeqAt.shaped (.list (iD ns)) = true then some (PyData.eqv (.list (iD ns)) (.list (iD ns))) else none) = _
    rw [if_pos ⟨sh, sh⟩, PySem.SeqAt.eqv_refl (.list (iD ns)) a]
  rw [this]
  rfl
theorem dep_o {x : Option (List Int)} (h : ∀ l, x = some l → l.length ≤ 1000) : dep 1 (ofO x) := by
  cases x with
  | none => exact .inl True.intro
  | some l =>
    refine .inr ⟨iD l, .inl rfl, m10 (by rw [List.length_map]; exact h l rfl), fun d hd => ?_⟩
    obtain ⟨n, _, rfl⟩ := List.mem_map.mp hd
    exact True.intro
def PFollows (cl : Cl) : Prop := ∀ (p o : List Int) (st : Pl), p.length ≤ 200 → o.length ≤ 200 → cl "_law_follows" [some (.list (iD p)), some (.list (iD o)), some (ofO (nxt p o))] st = some (.bool true, st)
theorem follows_run {cl : Cl} (hn : PNext cl) (hs : SameOk cl 1) (p o : List Int) (st : Pl) (hp : p.length ≤ 200) (ho : o.length ≤ 200) : runI 3 cl I_law_follows [some (.list (iD p)), some (.list (iD o)), some (ofO (nxt p o))] st = some (.bool true, st) := by
  have e1 := hn p o st hp ho
  have e2 := hs (ofO (nxt p o)) st (dep_o fun l h => by have := nxtA_len h; omega)
  have n1 := ne_self p
  have n2 := ne_self o
  have hl : ∀ l, nxt p o = some l → (iD l).length < most := fun l h => Nat.lt_of_lt_of_le (by rw [List.length_map]; have := nxtA_len h; omega : (iD l).length < 1000) (by decide)
  cases hx : nxt p o with
  | none =>
    rw [hx] at e1 e2
    have e1 : cl "next_picks" [some (.list (iD p)), some (.list (iD o))] st = some (.none, st) := e1
    have e2 : cl "_law_same" [some .none, some .none] st = some (.bool true, st) := e2
    show runI 3 cl I_law_follows [some (.list (iD p)), some (.list (iD o)), some .none] st = _
    generalize iD p = P at *
    generalize iD o = O at *
    simp [runI, runF, I_law_follows, slOf, Cst.d, biD, e1, e2, n1, n2, frzE, frzS, flatD]
  | some l =>
    rw [hx] at e1 e2
    have e1 : cl "next_picks" [some (.list (iD p)), some (.list (iD o))] st = some (.list (iD l), st) := e1
    have e2 : cl "_law_same" [some (.list (iD l)), some (.list (iD l))] st = some (.bool true, st) := e2
    have hl := hl l hx
    show runI 3 cl I_law_follows [some (.list (iD p)), some (.list (iD o)), some (.list (iD l))] st = _
    generalize iD l = L at *
    generalize iD p = P at *
    generalize iD o = O at *
    simp [runI, runF, I_law_follows, slOf, Cst.d, biD, e1, e2, n1, n2, frzE, frzS, flatD, hl]
/-! ### loose lists -/
theorem bounds_at {r : Int} (h0 : 0 ≤ r) (h1 : r < 4) : ∃ m, ixD (.list [.int 1, .int 3, .int 12, .int 1000000000]) (.int r) = some (.int m) ∧ 0 < m ∧ m ≤ 1000000000 := by
  have : r = 0 ∨ r = 1 ∨ r = 2 ∨ r = 3 := by omega
  rcases this with rfl | rfl | rfl | rfl
  · exact ⟨1, rfl, by decide, by decide⟩
  · exact ⟨3, rfl, by decide, by decide⟩
  · exact ⟨12, rfl, by decide, by decide⟩
  · exact ⟨1000000000, rfl, by decide, by decide⟩
def PLoose (cl : Cl) : Prop := ∀ st, Pok st → ∃ (p o : List Int) (st' : Pl), cl "_law_loose" [none] st = some (.list [.list (iD p), .list (iD o)], st') ∧ p.length ≤ o.length ∧ o.length ≤ 8 ∧ Pok st'
theorem loose_run {cl : Cl} (hd : DrawOk cl) (st : Pl) (h : Pok st) : ∃ (p o : List Int) (st' : Pl), runI 1 cl I_law_loose [none] st = some (.list [.list (iD p), .list (iD o)], st') ∧ p.length ≤ o.length ∧ o.length ≤ 8 ∧ Pok st' := by
  have m0 : (0 : Nat) ≤ most := by decide
  have m2 : (2 : Nat) ≤ most := by decide
  have m4 : (4 : Nat) ≤ most := by decide
  have b9 : binD .pow (.int 10) (.int 9) = some (.int 1000000000) := by simp [binD]
  obtain ⟨n, st1, e1, n0, n1, h1⟩ := hd 9 st h (by decide) (by decide)
  have r1 := rngD_nat n0 (by omega)
  obtain ⟨env2, st2, e2, os, x3, rfl, lo, po, h2⟩ := forG_nx (f := fb cl (.one 3) (.cons (.app 1 (.bin .add (.cst (.int 1)) (.call "_law_draw" (.pool 0 (.cons (.ix (.lst (.cons (.cst (.int 1)) (.cons (.cst (.int 3)) (.cons (.cst (.int 12)) (.cons (.bin .pow (.cst (.int 10)) (.cst (.int 9))) .nil))))) (.call "_law_draw" (.pool 0 (.cons (.cst (.int 4)) .nil)))) .nil)))))
  .nil)) (fun i env s => ∃ (os : List Int) (x3 : Sl), env = [.pl, .ow (iD os), .ow [], x3, .no, .no] ∧ os.length = i ∧ (∀ x ∈ os, 0 < x ∧ x ≤ 1000000000) ∧ Pok s) ((List.range n.toNat).map fun (k : Nat) => PyData.int (k : Int)) [.pl, .ow [], .ow [], .no, .no, .no] st1 ⟨[], _, rfl, rfl, (fun x hx => by cases hx), h1⟩
    (fun i d env s hi ⟨os, x3, q, lo, po, hp⟩ => by
      subst q
      obtain ⟨hi2, rfl⟩ := rng_at hi
      obtain ⟨r, s1, a1, r0, rl, p1⟩ := hd 4 s hp (by decide) (by decide)
      obtain ⟨m, im, ml, mu⟩ := bounds_at r0 rl
      obtain ⟨v, s2, a2, v0, vl, p2⟩ := hd m s1 p1 ml (by omega)
      have lt : (iD os).length < most := Nat.lt_of_lt_of_le (by rw [List.length_map]; omega : (iD os).length < 1000) (by decide)
      refine ⟨[.pl, .ow (iD (os ++ [1 + v])), .ow [], .im (.int i), .no, .no], s2, ?_, os ++ [1 + v], _, rfl, by simp [lo], fun x hx => ?_, p2⟩
      · have ei : iD (os ++ [1 + v]) = iD os ++ [.int (1 + v)] := by simp [iD]
        rw [ei]
        generalize iD os = O at *
        simp [fb_eq, sgD, Cst.d, a1, b9, m4, im, a2, lt]
      · rcases List.mem_append.mp hx with hx | hx
        · exact po x hx
        · rw [List.mem_singleton.mp hx]
          omega)
  simp only [List.length_map, List.length_range] at lo
  obtain ⟨env3, st3, e3, ps, x4, x5, rfl, lp, h3⟩ := forG_nx (f := fb cl (.one 4) (.cons (.set 5 (.bin .sub (.var 4) (.cst (.int 1))))
  (.cons (.iff (.cmp .eq (.call "_law_draw" (.pool 0 (.cons (.cst (.int 2)) .nil))) (.cst (.int 1))) (.cons (.set 5 (.call "_law_draw" (.pool 0 (.cons (.var 4) .nil))))
  .nil) .nil)
  (.cons (.app 2 (.var 5))
  .nil)))) (fun i env s => ∃ (ps : List Int) (x4 x5 : Sl), env = [.pl, .im (.list (iD os)), .ow (iD ps), x3, x4, x5] ∧ ps.length = i ∧ Pok s) (iD os) [.pl, .im (.list (iD os)), .ow [], x3, .no, .no] st2 ⟨[], _, _, rfl, rfl, h2⟩
    (fun i d env s hi ⟨ps, x4, x5, q, lp, hp⟩ => by
      subst q
      have hil : i < os.length := by
        have := (List.getElem?_eq_some_iff.mp hi).1
        rwa [List.length_map] at this
      have hm := List.mem_of_getElem? hi
      obtain ⟨x, hx, rfl⟩ := List.mem_map.mp hm
      obtain ⟨xl, xu⟩ := po x hx
      have lt : (iD ps).length < most := Nat.lt_of_lt_of_le (by rw [List.length_map]; omega : (iD ps).length < 1000) (by decide)
      obtain ⟨r, s1, a1, r0, rl, p1⟩ := hd 2 s hp (by decide) (by decide)
      by_cases c : r = 1
      · subst c
        obtain ⟨v, s2, a2, v0, vl, p2⟩ := hd x s1 p1 xl (by omega)
        refine ⟨[.pl, .im (.list (iD os)), .ow (iD (ps ++ [v])), x3, .im (.int x), .im (.int v)], s2, ?_, ps ++ [v], _, _, rfl, by simp [lp], p2⟩
        have ei : iD (ps ++ [v]) = iD ps ++ [.int v] := by simp [iD]
        rw [ei]
        generalize iD os = O at *
        generalize iD ps = P at *
        simp [fb_eq, sgD, Cst.d, a1, a2, lt]
      · refine ⟨[.pl, .im (.list (iD os)), .ow (iD (ps ++ [x - 1])), x3, .im (.int x), .im (.int (x - 1))], s1, ?_, ps ++ [x - 1], _, _, rfl, by simp [lp], p1⟩
        have ei : iD (ps ++ [x - 1]) = iD ps ++ [.int (x - 1)] := by simp [iD]
        rw [ei]
        generalize iD os = O at *
        generalize iD ps = P at *
        simp [fb_eq, sgD, Cst.d, a1, c, lt])
  rw [List.length_map] at lp
  have lP : (iD ps).length = ps.length := List.length_map ..
  obtain ⟨r, st4, e4, r0, rl, h4⟩ := hd ((ps.length : Int) + 1) st3 h3 (by omega) (by omega)
  have hcut : cutD (iD ps) none (some ((ps.length : Int) - r)) = iD (ps.take ((ps.length : Int) - r).toNat) := by
    have := cut_to (iD ps) ((ps.length : Int) - r).toNat
    rw [show ((((ps.length : Int) - r).toNat : Nat) : Int) = (ps.length : Int) - r by omega] at this
    rw [this]
    simp [iD]
  refine ⟨ps.take ((ps.length : Int) - r).toNat, os, st4, ?_, by rw [List.length_take]; omega, by omega, h4⟩
  generalize iD (ps.take ((ps.length : Int) - r).toNat) = C at *
  generalize iD os = O at *
  generalize iD ps = P at *
  simp [runI, runF, I_law_loose, slOf, Cst.d, m0, e1, r1, e2, frzE, frzS, itS, e3, slD, biD, lP, e4, hcut, m2]
end K25

set_option Elab.async false
set_option linter.all false
set_option maxRecDepth 100000
set_option maxHeartbeats 4000000
namespace K25
open PySem Ip L2 Cm
/-! The leaves of a drawn tree, one behind the other. -/
/-- the greatest possible picks -/
def Mxl (r s : List Int) : Prop := r.length = s.length ∧ ∀ (i : Nat) (x y : Int), r[i]? = some x → s[i]? = some y → ¬ x + 1 < y
theorem nxtA_skip {f : Nat → Int} {o : List Int} {k : Nat} : ∀ m : Nat, (∀ i, k ≤ i → i < k + m → ¬ f i + 1 < o.getD i 0) → nxtA f o (k + m) = nxtA f o k
  | 0, _ => rfl
  | m + 1, h => by
    show (if f (k + m) + 1 < o.getD (k + m) 0 then _ else nxtA f o (k + m)) = _
    rw [if_neg (h (k + m) (by omega) (by omega))]
    exact nxtA_skip m fun i h1 h2 => h i h1 (by omega)
theorem getD_of {l : List Int} {i : Nat} {x : Int} (h : l[i]? = some x) : l.getD i 0 = x := by
  rw [List.getD_eq_getElem?_getD, h]
  rfl
theorem nxt_step {q o r s : List Int} {x m : Int} (hq : q.length = o.length) (hx : x + 1 < m) (h : Mxl r s) : nxt (q ++ x :: r) (o ++ m :: s) = some (q ++ [x + 1]) := by
  unfold nxt
  have hl : (o ++ m :: s).length = (q.length + 1) + s.length := by simp [hq]; omega
  rw [hl, nxtA_skip]
  · show (if pk (q ++ x :: r) q.length + 1 < (o ++ m :: s).getD q.length 0 then some (fl (q ++ x :: r) q.length ++ [pk (q ++ x :: r) q.length + 1]) else _) = _
    have e1 : pk (q ++ x :: r) q.length = x := getD_of (by simp)
    have e2 : (o ++ m :: s).getD q.length 0 = m := getD_of (by rw [hq]; simp)
    have e3 : fl (q ++ x :: r) q.length = q := by
      rw [fl_eq]
      simp
    rw [e1, e2, e3, if_pos hx]
  · intro i h1 h2
    obtain ⟨j, rfl⟩ : ∃ j, i = q.length + (j + 1) := ⟨i - q.length - 1, by omega⟩
    have hj : j < s.length := by omega
    have hj' : j < r.length := by rw [h.1]; exact hj
    have e1 : pk (q ++ x :: r) (q.length + (j + 1)) = r[j] := getD_of (by
      rw [List.getElem?_append_right (by omega), Nat.add_sub_cancel_left, List.getElem?_cons_succ, List.getElem?_eq_getElem hj'])
    have e2 : (o ++ m :: s).getD (q.length + (j + 1)) 0 = s[j] := getD_of (by
      rw [hq, List.getElem?_append_right (by omega), Nat.add_sub_cancel_left, List.getElem?_cons_succ, List.getElem?_eq_getElem hj])
    rw [e1, e2]
    exact h.2 j _ _ (List.getElem?_eq_getElem hj') (List.getElem?_eq_getElem hj)
theorem nxt_last {r s : List Int} (h : Mxl r s) : nxt r s = none := by
  unfold nxt
  rw [show s.length = 0 + s.length by omega, nxtA_skip]
  · rfl
  · intro i _ h2
    have hj : i < s.length := by omega
    have hj' : i < r.length := by rw [h.1]; exact hj
    have e1 : pk r i = r[i] := getD_of (List.getElem?_eq_getElem hj')
    have e2 : s.getD i 0 = s[i] := getD_of (List.getElem?_eq_getElem hj)
    rw [e1, e2]
    exact h.2 i _ _ (List.getElem?_eq_getElem hj') (List.getElem?_eq_getElem hj)
theorem nxt_zero (q : List Int) (n : Nat) (o : List Int) : nxt (q ++ List.replicate n 0) o = nxt q o := by
  unfold nxt
  congr 1
  funext i
  unfold pk
  rw [List.getD_eq_getElem?_getD, List.getD_eq_getElem?_getD]
  by_cases c : i < q.length
  · rw [List.getElem?_append_left c]
  · rw [List.getElem?_append_right (by omega), List.getElem?_replicate, List.getElem?_eq_none (by omega : q.length ≤ i)]
    split <;> rfl
abbrev Lf := List Int × List Int
def leafD (l : Lf) : D := .list [.list (iD l.1), .list (iD l.2)]
def Step (a b : Lf) : Prop := ∃ (q o : List Int) (x m : Int) (r s : List Int) (n : Nat), a = (q ++ x :: r, o ++ m :: s) ∧ q.length = o.length ∧ x + 1 < m ∧ Mxl r s ∧ b.1 = q ++ (x + 1) :: List.replicate n 0
/-- the leaves below a node, k leaves before them, cut at 61 -/
structure Gr (q o : List Int) (k : Nat) (M : List Lf) : Prop where
  fi : ∃ n oa, M[0]? = some (q ++ List.replicate n 0, oa)
  ch : ∀ i a b, M[i]? = some a → M[i + 1]? = some b → Step a b
  la : k + M.length < 61 → ∃ r s, M[M.length - 1]? = some (q ++ r, o ++ s) ∧ Mxl r s
  ok : ∀ a ∈ M, a.1.length ≤ 6 ∧ a.2.length ≤ 6
  le : k + M.length ≤ 61
/-- behind i branches of a node that has c -/
structure Lp (q o : List Int) (c : Int) (k i : Nat) (M : List Lf) : Prop where
  z : i = 0 → M = []
  fi : 0 < i → ∃ n oa, M[0]? = some (q ++ List.replicate n 0, oa)
  ch : ∀ i a b, M[i]? = some a → M[i + 1]? = some b → Step a b
  la : 0 < i → k + M.length < 61 → ∃ r s, M[M.length - 1]? = some (q ++ ((i : Int) - 1) :: r, o ++ c :: s) ∧ Mxl r s
  ok : ∀ a ∈ M, a.1.length ≤ 6 ∧ a.2.length ≤ 6
  le : k + M.length ≤ 61
theorem Lp.pos {q o : List Int} {c : Int} {k i : Nat} {M : List Lf} (h : Lp q o c k i M) (hk : k < 61) (hf : ¬ k + M.length < 61) : 0 < i := by
  cases i with
  | zero =>
    have := h.z rfl
    subst this
    simp at hf
    omega
  | succ i => omega
theorem Lp.skip {q o : List Int} {c : Int} {k i : Nat} {M : List Lf} (h : Lp q o c k i M) (hk : k < 61) (hf : ¬ k + M.length < 61) : Lp q o c k (i + 1) M where
  z := fun e => by omega
  fi := fun _ => h.fi (h.pos hk hf)
  ch := h.ch
  la := fun _ h2 => absurd h2 hf
  ok := h.ok
  le := h.le
theorem Lp.step {q o : List Int} {c : Int} {k i : Nat} {M M' : List Lf} (h : Lp q o c k i M) (g : Gr (q ++ [(i : Int)]) (o ++ [c]) (k + M.length) M') (hq : q.length = o.length) (hc : (i : Int) < c) (hf : k + M.length < 61) : Lp q o c k (i + 1) (M ++ M') := by
  obtain ⟨n, oa, f1⟩ := g.fi
  have hM' : 0 < M'.length := (List.getElem?_eq_some_iff.mp f1).1
  refine ⟨fun e => by omega, fun _ => ?_, fun j a b ha hb => ?_, fun _ h2 => ?_, fun a ha => ?_, ?_⟩
  · by_cases c0 : i = 0
    · have e := h.z c0
      subst e
      subst c0
      refine ⟨n + 1, oa, ?_⟩
      rw [List.nil_append, f1, List.append_assoc]
      rfl
    · obtain ⟨n2, oa2, f2⟩ := h.fi (by omega)
      refine ⟨n2, oa2, ?_⟩
      rw [List.getElem?_append_left (List.getElem?_eq_some_iff.mp f2).1]
      exact f2
  · by_cases c1 : j + 1 < M.length
    · rw [List.getElem?_append_left (by omega)] at ha
      rw [List.getElem?_append_left c1] at hb
      exact h.ch j a b ha hb
    · by_cases c2 : j + 1 = M.length
      · rw [List.getElem?_append_left (by omega)] at ha
        rw [List.getElem?_append_right (by omega), c2, Nat.sub_self, f1] at hb
        cases hb
        have hi : 0 < i := by
          cases i with
          | zero =>
            have := h.z rfl
            subst this
            simp at c2
          | succ i => omega
        obtain ⟨r, s, l1, l2⟩ := h.la hi hf
        rw [show M.length - 1 = j by omega, ha] at l1
        cases l1
        refine ⟨q, o, (i : Int) - 1, c, r, s, n, rfl, hq, by omega, l2, ?_⟩
        rw [List.append_assoc, show (i : Int) - 1 + 1 = i by omega]
        rfl
      · rw [List.getElem?_append_right (by omega)] at ha hb
        refine g.ch (j - M.length) a b ha ?_
        rw [show j - M.length + 1 = j + 1 - M.length by omega]
        exact hb
  · rw [List.length_append] at h2
    obtain ⟨r, s, l1, l2⟩ := g.la (by omega)
    refine ⟨r, s, ?_, l2⟩
    rw [List.length_append, List.getElem?_append_right (by omega), show M.length + M'.length - 1 - M.length = M'.length - 1 by omega, l1, List.append_assoc, List.append_assoc, show (((i + 1 : Nat) : Int) - 1) = (i : Int) by omega]
    rfl
  · rcases List.mem_append.mp ha with ha | ha
    · exact h.ok a ha
    · exact g.ok a ha
  · rw [List.length_append]
    have := g.le
    omega
theorem Lp.gr {q o : List Int} {c : Int} {k : Nat} {M : List Lf} (h : Lp q o c k c.toNat M) (hc : 0 < c) : Gr q o k M where
  fi := h.fi (by omega)
  ch := h.ch
  la := fun h2 => by
    obtain ⟨r, s, l1, l2⟩ := h.la (by omega) h2
    refine ⟨_, _, l1, by simp [l2.1], fun i x y hx hy => ?_⟩
    cases i with
    | zero =>
      simp at hx hy
      omega
    | succ i => exact l2.2 i x y (by simpa using hx) (by simpa using hy)
  ok := h.ok
  le := h.le
theorem gr_leaf {q o : List Int} {k : Nat} (hq : q.length ≤ 6) (ho : o.length ≤ 6) (hk : k < 61) : Gr q o k [(q, o)] where
  fi := ⟨0, o, by simp⟩
  ch := fun i a b ha hb => by
    simp at hb
  la := fun _ => ⟨[], [], by simp, rfl, fun i x y hx _ => by simp at hx⟩
  ok := fun a ha => by
    rw [List.mem_singleton.mp ha]
    exact ⟨hq, ho⟩
  le := by
    show k + 1 ≤ 61
    exact hk
/-! ### the tree's growing -/
def PGrow (cl : Cl) (d : Nat) : Prop := ∀ (q o : List Int) (L : List Lf) (st : Pl), q.length = o.length → o.length ≤ 6 → 6 ≤ o.length + d → L.length < 61 → Pok st →
  ∃ M st', cl (ioN "_law_grow") [none, some (.list (iD q)), some (.list (iD o)), some (.list (L.map leafD))] st = some (.list ((L ++ M).map leafD), st') ∧ Gr q o L.length M ∧ Pok st'
abbrev growB : ISs := (.cons (.iff (.cmp .lt (.olen 3) (.cst (.int 61))) (.cons (.dropc "_law_grow" (.pool 0 (.cons (.bin .add (.var 1) (.lst (.cons (.var 5) .nil))) (.cons (.bin .add (.var 2) (.lst (.cons (.var 4) .nil))) .nil))) 3)
  .nil) .nil)
  .nil)
theorem grow_loop {cl : Cl} {d : Nat} (ih : PGrow cl d) (q o : List Int) (L : List Lf) (c : Int) (hq : q.length = o.length) (ho : o.length + 1 ≤ 6) (hd : 6 ≤ o.length + 1 + d) (hL : L.length < 61) (h0 : 0 < c) (st : Pl) (h : Pok st) :
    ∃ M y5 st', forG (fb cl (.one 5) growB) ((List.range c.toNat).map fun (k : Nat) => PyData.int (k : Int)) [.pl, .im (.list (iD q)), .im (.list (iD o)), .ow (L.map leafD), .im (.int c), .no] st = some (.nx [.pl, .im (.list (iD q)), .im (.list (iD o)), .ow ((L ++ M).map leafD), .im (.int c), y5] st') ∧ Gr q o L.length M ∧ Pok st' := by
  have m1 : (1 : Nat) ≤ most := by decide
  have bq : ∀ x : Int, binD .add (.list (iD q)) (.list [.int x]) = some (.list (iD q ++ [.int x])) := fun x => if_pos (m10 (by simp; omega))
  have bo : binD .add (.list (iD o)) (.list [.int c]) = some (.list (iD o ++ [.int c])) := if_pos (m10 (by simp; omega))
  obtain ⟨env', st', e, M, y5, rfl, hp, hk⟩ := forG_nx (f := fb cl (.one 5) growB) (fun i env s => ∃ M y5, env = [.pl, .im (.list (iD q)), .im (.list (iD o)), .ow ((L ++ M).map leafD), .im (.int c), y5] ∧ Lp q o c L.length i M ∧ Pok s)
    ((List.range c.toNat).map fun (k : Nat) => PyData.int (k : Int)) [.pl, .im (.list (iD q)), .im (.list (iD o)), .ow (L.map leafD), .im (.int c), .no] st ⟨[], _, by rw [List.append_nil], ⟨fun _ => rfl, fun z => by omega, fun i a b ha => by simp at ha, fun z => by omega, fun a ha => by (cases ha), by simp; omega⟩, h⟩
    (fun i d' env s hi ⟨M, y5, e1, hp, hk⟩ => by
      subst e1
      obtain ⟨hi2, rfl⟩ := rng_at hi
      have hl : ((L ++ M).map leafD).length = L.length + M.length := by simp
      by_cases cc : L.length + M.length < 61
      · obtain ⟨M', s', e2, g, hk'⟩ := ih (q ++ [(i : Int)]) (o ++ [c]) (L ++ M) s (by simp [hq]) (by simp; omega) (by simp; omega) (by simp; omega) hk
        rw [List.length_append] at g
        have ei : iD (q ++ [(i : Int)]) = iD q ++ [.int (i : Int)] := by simp [iD]
        have eo : iD (o ++ [c]) = iD o ++ [.int c] := by simp [iD]
        rw [ei, eo] at e2
        have bq := bq (i : Int)
        refine ⟨[.pl, .im (.list (iD q)), .im (.list (iD o)), .ow ((L ++ (M ++ M')).map leafD), .im (.int c), .im (.int i)], s', ?_, M ++ M', _, rfl, hp.step g hq (by omega) cc, hk'⟩
        rw [← List.append_assoc]
        generalize ((L ++ M ++ M').map leafD) = X' at *
        generalize ((L ++ M).map leafD) = X at *
        have c2 : (X.length : Int) < 61 := by omega
        generalize iD q ++ [.int (i : Int)] = Q' at *
        generalize iD o ++ [.int c] = O' at *
        generalize iD q = Q at *
        generalize iD o = O at *
        simp [fb_eq, sgD, Cst.d, c2, bq, bo, m1, e2]
      · refine ⟨[.pl, .im (.list (iD q)), .im (.list (iD o)), .ow ((L ++ M).map leafD), .im (.int c), .im (.int i)], s, ?_, M, _, rfl, hp.skip hL cc, hk⟩
        generalize ((L ++ M).map leafD) = X at *
        have c2 : ¬ (X.length : Int) < 61 := by omega
        generalize iD q = Q at *
        generalize iD o = O at *
        simp [fb_eq, sgD, Cst.d, c2])
  simp only [List.length_map, List.length_range] at hp
  exact ⟨M, y5, st', e, hp.gr h0, hk⟩
theorem opts_at {r : Int} (h0 : 0 ≤ r) (h1 : r < 10) : ∃ c, ixD (.list [.int 0, .int 0, .int 1, .int 2, .int 3, .int 4, .int 2, .int 3, .int 1, .int 12]) (.int r) = some (.int c) ∧ 0 ≤ c ∧ c ≤ 12 := by
  have : r = 0 ∨ r = 1 ∨ r = 2 ∨ r = 3 ∨ r = 4 ∨ r = 5 ∨ r = 6 ∨ r = 7 ∨ r = 8 ∨ r = 9 := by omega
  rcases this with rfl | rfl | rfl | rfl | rfl | rfl | rfl | rfl | rfl | rfl
  · exact ⟨0, rfl, by decide, by decide⟩
  · exact ⟨0, rfl, by decide, by decide⟩
  · exact ⟨1, rfl, by decide, by decide⟩
  · exact ⟨2, rfl, by decide, by decide⟩
  · exact ⟨3, rfl, by decide, by decide⟩
  · exact ⟨4, rfl, by decide, by decide⟩
  · exact ⟨2, rfl, by decide, by decide⟩
  · exact ⟨3, rfl, by decide, by decide⟩
  · exact ⟨1, rfl, by decide, by decide⟩
  · exact ⟨12, rfl, by decide, by decide⟩
theorem runIO_mk {n : Nat} {cl : Cl} {I : IF} {as : List (Option D)} {ds out : List D} {st st' : Pl} {env env' : List Sl} (hl : (as ++ [some (PyData.list ds)]).length = n) (he : as.map slOf ++ .ow ds :: List.replicate (I.n - (as.length + 1)) .no = env) (h : evSs cl I.body env st = some (.nx env' st')) (h2 : env'[as.length]? = some (.ow out)) :
    runIO n cl I (as ++ [some (.list ds)]) st = some (.list out, st') := by
  unfold runIO
  rw [if_pos hl]
  unfold runO
  simp only [List.getLast?_append, List.getLast?_singleton, Option.some_or, List.dropLast_concat, List.length_append, List.length_singleton, Nat.add_sub_cancel]
  rw [he, h]
  simp only [h2]
theorem grow_run {cl : Cl} {d : Nat} (hd : DrawOk cl) (ih : ∀ d', d = d' + 1 → PGrow cl d') (q o : List Int) (L : List Lf) (st : Pl) (hq : q.length = o.length) (ho : o.length ≤ 6) (h6 : 6 ≤ o.length + d) (hL : L.length < 61) (h : Pok st) :
    ∃ M st', runIO 4 cl I_law_grow [none, some (.list (iD q)), some (.list (iD o)), some (.list (L.map leafD))] st = some (.list ((L ++ M).map leafD), st') ∧ Gr q o L.length M ∧ Pok st' := by
  have m10' : (10 : Nat) ≤ most := by decide
  have m2 : (2 : Nat) ≤ most := by decide
  obtain ⟨r, st1, e1, r0, r1, h1⟩ := hd 10 st h (by decide) (by decide)
  obtain ⟨c, ic, c0, c1⟩ := opts_at r0 r1
  have hlo : (iD o).length = o.length := List.length_map ..
  have hr0 : rngD 0 0 = some [] := by
    have := rngD_nat (n := 0) (by decide) (by decide)
    exact this
  have leaf : (L ++ [(q, o)]).map leafD = L.map leafD ++ [.list [.list (iD q), .list (iD o)]] := by simp [leafD]
  have lt : (L.map leafD).length < most := Nat.lt_of_lt_of_le (by rw [List.length_map]; omega : (L.map leafD).length < 1000) (by decide)
  have mk : ∀ (X : List D) (env' : List Sl) (st' : Pl), evSs cl I_law_grow.body [.pl, .im (.list (iD q)), .im (.list (iD o)), .ow (L.map leafD), .no, .no] st = some (.nx env' st') → env'[3]? = some (.ow X) → runIO 4 cl I_law_grow [none, some (.list (iD q)), some (.list (iD o)), some (.list (L.map leafD))] st = some (.list X, st') := fun X env' st' g1 g2 =>
    runIO_mk (as := [none, some (.list (iD q)), some (.list (iD o))]) rfl rfl g1 g2
  by_cases c6 : 6 ≤ o.length
  · refine ⟨[(q, o)], st1, mk _ [.pl, .im (.list (iD q)), .im (.list (iD o)), .ow ((L ++ [(q, o)]).map leafD), .im (.int 0), .no] st1 ?_ rfl, gr_leaf (by omega) ho hL, h1⟩
    rw [leaf]
    have c6' : (6 : Int) ≤ (o.length : Int) := by omega
    generalize L.map leafD = X at *
    generalize iD q = Q at *
    generalize iD o = O at *
    have hb1 : biD .len [.list O] = some (.int o.length) := by
      rw [← hlo]
      rfl
    simp [I_law_grow, Cst.d, e1, m10', ic, hb1, c6', lt, m2, hr0]
    rfl
  · have c6' : ¬ (6 : Int) ≤ (o.length : Int) := by omega
    by_cases cz : c = 0
    · subst cz
      refine ⟨[(q, o)], st1, mk _ [.pl, .im (.list (iD q)), .im (.list (iD o)), .ow ((L ++ [(q, o)]).map leafD), .im (.int 0), .no] st1 ?_ rfl, gr_leaf (by omega) ho hL, h1⟩
      rw [leaf]
      generalize L.map leafD = X at *
      generalize iD q = Q at *
      generalize iD o = O at *
      have hb1 : biD .len [.list O] = some (.int o.length) := by
        rw [← hlo]
        rfl
      simp [I_law_grow, Cst.d, e1, m10', ic, hb1, c6', lt, m2, hr0]
      rfl
    · obtain ⟨d', rfl⟩ : ∃ d', d = d' + 1 := ⟨d - 1, by omega⟩
      obtain ⟨M, y5, st2, e2, g, h2⟩ := grow_loop (ih d' rfl) q o L c hq (by omega) (by omega) hL (by omega) st1 h1
      have hr := rngD_nat c0 (by omega)
      refine ⟨M, st2, mk _ [.pl, .im (.list (iD q)), .im (.list (iD o)), .ow ((L ++ M).map leafD), .im (.int c), y5] st2 ?_ rfl, g, h2⟩
      generalize ((L ++ M).map leafD) = X' at *
      generalize L.map leafD = X at *
      generalize iD q = Q at *
      generalize iD o = O at *
      have hb1 : biD .len [.list O] = some (.int o.length) := by
        rw [← hlo]
        rfl
      simp [I_law_grow, Cst.d, e1, m10', ic, hb1, c6', cz, hr, e2]
end K25

set_option Elab.async false
set_option linter.all false
set_option maxRecDepth 100000
set_option maxHeartbeats 4000000
namespace K25
open PySem Ip L2 Cm
/-! All defs at a depth, and the law. -/
def depth : Nat := 10
theorem t_mixed (n : Nat) : MixedOk (tb (n + 1)) := fun c t lim st h0 h1 h2 h3 h4 => by
  obtain ⟨r, e, q⟩ := mixed_run (tb n) c t lim st h0 h1 h2 h3 h4
  exact ⟨r, (tb_law_mixed n _ st).trans e, q⟩
theorem t_draw (n : Nat) : DrawOk (tb (n + 2)) := fun lim st h h0 h1 => by
  obtain ⟨r, s, e, q⟩ := draw_run (t_mixed n) lim st h h0 h1
  exact ⟨r, s, (tb_law_draw (n + 1) _ st).trans e, q⟩
theorem t_int (n : Nat) : IsIntOk (tb (n + 1)) := fun d st => (tb_law_is_int n _ st).trans (is_int_run _ d st)
theorem t_same0 (n : Nat) : SameOk (tb (n + 2)) 0 := fun d st h => (tb_law_same (n + 1) _ st).trans (same_scal (t_int n) d st h)
theorem t_same (n : Nat) : SameOk (tb (n + 3)) 1 := fun d st hd => (tb_law_same (n + 2) _ st).trans (same_run (t_int (n + 1)) (t_same0 n) d st hd)
theorem t_pick (n : Nat) : PPick (tb (n + 1)) := fun p k st => (tb_pick_at n _ st).trans (pick_run _ p k st)
theorem t_fill (n : Nat) : PFill (tb (n + 1)) := fun q k st h1 h2 => (tb_filled_picks n _ st).trans (filled_run _ q k st h1 h2)
theorem t_next (n : Nat) : PNext (tb (n + 2)) := fun p o st h1 h2 => (tb_next_picks (n + 1) _ st).trans (next_run (t_pick n) (t_fill n) p o st h1 h2)
theorem t_raised (n : Nat) : PRaised (tb (n + 1)) := fun p o st h1 h2 => (tb_law_raised n _ st).trans (raised_run _ p o st h1 h2)
theorem t_part (n : Nat) : PPart (tb (n + 1)) := fun q x y r t st h1 h2 => (tb_law_parting n _ st).trans (part_run _ q x y r t st h1 h2)
theorem t_follows (n : Nat) : PFollows (tb (n + 4)) := fun p o st h1 h2 => (tb_law_follows (n + 3) _ st).trans (follows_run (t_next (n + 1)) (t_same n) p o st h1 h2)
theorem t_loose (n : Nat) : PLoose (tb (n + 3)) := fun st h => by
  obtain ⟨p, o, s, e, q⟩ := loose_run (t_draw n) st h
  exact ⟨p, o, s, (tb_law_loose (n + 2) _ st).trans e, q⟩
theorem t_grow (n : Nat) : ∀ d : Nat, PGrow (tb (n + d + 3)) d
  | 0 => fun q o L st h1 h2 h3 h4 h5 => by
    obtain ⟨M, s, e, g⟩ := grow_run (t_draw n) (d := 0) (fun d' z => by omega) q o L st h1 h2 h3 h4 h5
    exact ⟨M, s, (tb_law_grow (n + 2) _ st).trans e, g⟩
  | d + 1 => fun q o L st h1 h2 h3 h4 h5 => by
    obtain ⟨M, s, e, g⟩ := grow_run (t_draw (n + d + 1)) (d := d + 1) (fun d' z => by
      cases z
      exact t_grow n d) q o L st h1 h2 h3 h4 h5
    exact ⟨M, s, (tb_law_grow (n + d + 3) _ st).trans e, g⟩
structure Facts (cl : Cl) : Prop where
  grow : PGrow cl 6
  part : PPart cl
  follows : PFollows cl
  raised : PRaised cl
  loose : PLoose cl
theorem facts_tb (n : Nat) : Facts (tb (n + 9)) := ⟨t_grow n 6, t_part _, t_follows _, t_raised _, t_loose _⟩
theorem lst_at {es : List D} {k : Nat} {a : D} (h : es[k]? = some a) : ixD (.list es) (.int (k : Int)) = some a := by
  have hl := (List.getElem?_eq_some_iff.mp h).1
  show atI es (k : Int) = _
  rw [atI_of (by omega) (by omega)]
  have e2 := (List.getElem?_eq_some_iff.mp h).2
  simp [e2]
@[simp] theorem frz_im (d : D) : frzS (.im d) = .im d := rfl
abbrev leafB : ISs := (.cons (.frz [2] (.unp [6, 7] (.ix (.var 2) (.var 4))))
  (.cons (.set 5 (.cst .non))
  (.cons (.iff (.cmp .lt (.bin .add (.var 4) (.cst (.int 1))) (.olen 2)) (.cons (.frz [2] (.set 8 (.ix (.ix (.var 2) (.bin .add (.var 4) (.cst (.int 1)))) (.cst (.int 0)))))
  (.cons (.set 5 (.sl (.var 8) .non (.some (.bin .add (.call "_law_parting" (.cons (.var 6) (.cons (.var 8) .nil))) (.cst (.int 1))))))
  .nil)) .nil)
  (.cons (.iff (.or (.not (.call "_law_follows" (.cons (.var 3) (.cons (.var 7) (.cons (.var 5) .nil))))) (.not (.call "_law_follows" (.cons (.var 6) (.cons (.var 7) (.cons (.var 5) .nil)))))) (.cons (.ret (.cst (.bl false)))
  .nil) .nil)
  (.cons (.set 3 (.var 5))
  .nil)))))
theorem leaf_loop {cl : Cl} (F : Facts cl) (M : List Lf) (g : Gr [] [] 0 M) (N : Nat) (hN : N ≤ M.length) (hN2 : N ≤ 60) (st : Pl) : ∃ x2 x3 x4 x5 x6 x7 x8,
    forG (fb cl (.one 4) leafB) ((List.range N).map fun (k : Nat) => PyData.int (k : Int)) [.no, .pl, .ow (M.map leafD), .im (.list []), .no, .no, .no, .no, .no, .no] st = some (.nx [.no, .pl, x2, x3, x4, x5, x6, x7, x8, .no] st) := by
  obtain ⟨env', st', e, s2, w, x4, x5, x6, x7, x8, rfl, _, _, rfl⟩ := forG_nx (f := fb cl (.one 4) leafB) (fun i env s => ∃ s2 w x4 x5 x6 x7 x8, env = [.no, .pl, s2, .im w, x4, x5, x6, x7, x8, .no] ∧ frzS s2 = .im (.list (M.map leafD)) ∧ (i < M.length → ∃ (nw : List Int) (n : Nat), w = .list (iD nw) ∧ ∀ a, M[i]? = some a → a.1 = nw ++ List.replicate n 0) ∧ s = st)
    ((List.range N).map fun (k : Nat) => PyData.int (k : Int)) [.no, .pl, .ow (M.map leafD), .im (.list []), .no, .no, .no, .no, .no, .no] st ⟨_, _, _, _, _, _, _, rfl, rfl, fun _ => by
      obtain ⟨n, oa, h⟩ := g.fi
      refine ⟨[], n, rfl, fun a ha => ?_⟩
      rw [h] at ha
      cases ha
      rfl, rfl⟩
    (fun i d env s hi ⟨s2, w, x4, x5, x6, x7, x8, q1, g2, q3, q4⟩ => by
      subst q1
      subst q4
      obtain ⟨hi2, rfl⟩ := rng_at hi
      have hil : i < M.length := by omega
      obtain ⟨nw, n, rfl, hz⟩ := q3 hil
      have ha := List.getElem?_eq_getElem hil
      obtain ⟨f, op, hM⟩ : ∃ f op, M[i] = (f, op) := ⟨_, _, rfl⟩
      rw [hM] at ha
      have hf : f = nw ++ List.replicate n 0 := hz _ ha
      have hok := g.ok _ (List.mem_of_getElem? ha)
      have hfl : f.length ≤ 6 := hok.1
      have hol : op.length ≤ 6 := hok.2
      have hnl : nw.length ≤ 6 := by rw [hf, List.length_append] at hfl; omega
      have f1 := F.follows nw op s (by omega) (by omega)
      have f2 := F.follows f op s (by omega) (by omega)
      rw [← nxt_zero nw n op, ← hf] at f1
      have ik : ixD (.list (M.map leafD)) (.int (i : Int)) = some (.list [.list (iD f), .list (iD op)]) := lst_at (by rw [List.getElem?_map, ha]; rfl)
      have hb : biD .len [.list (M.map leafD)] = some (.int M.length) := by
        show some (PyData.int ((M.map leafD).length : Int)) = _
        rw [List.length_map]
      by_cases c : i + 1 < M.length
      · have hb' := List.getElem?_eq_getElem c
        obtain ⟨b, ob, hM2⟩ : ∃ b ob, M[i + 1] = (b, ob) := ⟨_, _, rfl⟩
        rw [hM2] at hb'
        obtain ⟨q, o, x, m, r, s0, n0, h1, h2, h3, h4, h5⟩ := g.ch i _ _ ha hb'
        cases h1
        have h5 : b = q ++ (x + 1) :: List.replicate n0 0 := h5
        have nx : nxt (q ++ x :: r) (o ++ m :: s0) = some (q ++ [x + 1]) := nxt_step h2 h3 h4
        rw [nx] at f1 f2
        have f1 : cl "_law_follows" [some (.list (iD nw)), some (.list (iD (o ++ m :: s0))), some (.list (iD (q ++ [x + 1])))] s = some (.bool true, s) := f1
        have f2 : cl "_law_follows" [some (.list (iD (q ++ x :: r))), some (.list (iD (o ++ m :: s0))), some (.list (iD (q ++ [x + 1])))] s = some (.bool true, s) := f2
        have pt := F.part q x (x + 1) r (List.replicate n0 0) s (by omega) (by omega)
        rw [← h5] at pt
        have ik1 : ixD (.list (M.map leafD)) (.int ((i : Int) + 1)) = some (.list [.list (iD b), .list (iD ob)]) := lst_at (k := i + 1) (by rw [List.getElem?_map, hb']; rfl)
        have i0 : ixD (.list [.list (iD b), .list (iD ob)]) (.int 0) = some (.list (iD b)) := rfl
        have hcut : cutD (iD b) none (some ((q.length : Int) + 1)) = iD (q ++ [x + 1]) := by
          have := cut_to (iD b) (q.length + 1)
          rw [show (((q.length + 1 : Nat)) : Int) = (q.length : Int) + 1 by omega] at this
          rw [this, h5]
          rw [show iD (q ++ (x + 1) :: List.replicate n0 0) = iD (q ++ [x + 1]) ++ iD (List.replicate n0 0) by simp [iD]]
          exact List.take_left' (by simp)
        have c' : (i : Int) + 1 < (M.length : Int) := by omega
        refine ⟨[.no, .pl, .im (.list (M.map leafD)), .im (.list (iD (q ++ [x + 1]))), .im (.int i), .im (.list (iD (q ++ [x + 1]))), .im (.list (iD (q ++ x :: r))), .im (.list (iD (o ++ m :: s0))), .im (.list (iD b)), .no], s, ?_, _, _, _, _, _, _, _, rfl, rfl, fun _ => ⟨q ++ [x + 1], n0, rfl, fun a z => ?_⟩, rfl⟩
        · generalize iD (q ++ [x + 1]) = D1 at *
          generalize iD (q ++ x :: r) = D2 at *
          generalize iD (o ++ m :: s0) = D3 at *
          generalize iD nw = D4 at *
          generalize iD ob = D5 at *
          generalize iD b = D6 at *
          generalize M.map leafD = X at *
          simp [fb_eq, sgD, itD, setMany, frzE, g2, Cst.d, ik, hb, c', ik1, i0, pt, slD, hcut, f1, f2]
        · rw [hb'] at z
          cases z
          rw [h5, List.append_assoc]
          rfl
      · have hlast : i = M.length - 1 := by omega
        obtain ⟨r, s0, l1, l2⟩ := g.la (by omega)
        rw [← hlast, ha] at l1
        cases l1
        have nx : nxt r s0 = none := nxt_last l2
        rw [List.nil_append, List.nil_append, nx] at f1 f2
        have f1 : cl "_law_follows" [some (.list (iD nw)), some (.list (iD s0)), some .none] s = some (.bool true, s) := f1
        have f2 : cl "_law_follows" [some (.list (iD r)), some (.list (iD s0)), some .none] s = some (.bool true, s) := f2
        rw [List.nil_append, List.nil_append] at ik
        have c' : ¬ (i : Int) + 1 < (M.length : Int) := by omega
        refine ⟨[.no, .pl, .im (.list (M.map leafD)), .im .none, .im (.int i), .im .none, .im (.list (iD r)), .im (.list (iD s0)), x8, .no], s, ?_, _, _, _, _, _, _, _, rfl, rfl, fun z => by omega, rfl⟩
        generalize iD r = D1 at *
        generalize iD s0 = D2 at *
        generalize iD nw = D4 at *
        generalize M.map leafD = X at *
        simp [fb_eq, sgD, itD, setMany, frzE, g2, Cst.d, ik, hb, c', f1, f2])
  exact ⟨_, _, _, _, _, _, _, e⟩
theorem loose_loop {cl : Cl} (F : Facts cl) (x2 x3 x4 x5 x6 x7 x8 : Sl) (st : Pl) (h : Pok st) : ∃ y4 y7 y9 st', forG (fb cl (.one 4) (.cons (.unp [9, 7] (.call "_law_loose" (.pool 1 .nil)))
  (.cons (.iff (.not (.call "_law_follows" (.cons (.var 9) (.cons (.var 7) (.cons (.call "_law_raised" (.cons (.var 9) (.cons (.var 7) .nil))) .nil))))) (.cons (.ret (.cst (.bl false)))
  .nil) .nil)
  .nil))) ((List.range 3).map fun (k : Nat) => PyData.int (k : Int)) [.no, .pl, x2, x3, x4, x5, x6, x7, x8, .no] st = some (.nx [.no, .pl, x2, x3, y4, x5, x6, y7, x8, y9] st') := by
  obtain ⟨env', st', e, y4, y7, y9, rfl, _⟩ := forG_nx (f := fb cl (.one 4) (.cons (.unp [9, 7] (.call "_law_loose" (.pool 1 .nil)))
  (.cons (.iff (.not (.call "_law_follows" (.cons (.var 9) (.cons (.var 7) (.cons (.call "_law_raised" (.cons (.var 9) (.cons (.var 7) .nil))) .nil))))) (.cons (.ret (.cst (.bl false)))
  .nil) .nil)
  .nil))) (fun i env s => ∃ y4 y7 y9, env = [.no, .pl, x2, x3, y4, x5, x6, y7, x8, y9] ∧ Pok s) ((List.range 3).map fun (k : Nat) => PyData.int (k : Int)) [.no, .pl, x2, x3, x4, x5, x6, x7, x8, .no] st ⟨_, _, _, rfl, h⟩
    (fun i d env s hi ⟨y4, y7, y9, q1, hp⟩ => by
      subst q1
      obtain ⟨hi2, rfl⟩ := rng_at hi
      obtain ⟨p, o, s1, e1, l1, l2, p1⟩ := F.loose s hp
      have e2 := F.raised p o s1 l1 (by omega)
      have e3 := F.follows p o s1 (by omega) (by omega)
      refine ⟨[.no, .pl, x2, x3, .im (.int i), x5, x6, .im (.list (iD o)), x8, .im (.list (iD p))], s1, ?_, _, _, _, rfl, p1⟩
      generalize ofO (nxt p o) = z at *
      generalize iD p = P at *
      generalize iD o = O at *
      simp [fb_eq, sgD, itD, setMany, e1, e2, e3])
  exact ⟨y4, y7, y9, st', e⟩
theorem pok0 (ns : List Int) : Pok (pl0 ns) := ⟨Int.le_refl 0, Int.le_refl 0, by show (0 : Int) < 10 ^ 18; decide, by show (0 : Int) ≤ 7; decide⟩
theorem true_ (ns0 : List Int) (h0 : ns0.length ≤ 63) : ∃ st, lawRun (tb depth) I_law.n I_law.body ns0 = some (.rt (.bool true) st) := by
  have F : Facts (tb depth) := facts_tb 1
  generalize tb depth = cl at F
  have m0 : (0 : Nat) ≤ most := by decide
  obtain ⟨M, st1, e1, g, h1⟩ := F.grow [] [] [] (pl0 ns0) rfl (by decide) (by decide) (by decide) (pok0 ns0)
  have e1 : cl (ioN "_law_grow") [none, some (.list []), some (.list []), some (.list [])] (pl0 ns0) = some (.list (M.map leafD), st1) := e1
  have hX : (M.map leafD).length = M.length := List.length_map ..
  obtain ⟨N, hN, h60, hmn, hrg⟩ : ∃ N : Nat, N ≤ M.length ∧ N ≤ 60 ∧ (if (M.length : Int) < 60 then (M.length : Int) else 60) = (N : Int) ∧ rngD 0 (N : Int) = some ((List.range N).map fun (k : Nat) => PyData.int (k : Int)) := by
    have key : ∀ N : Nat, N ≤ 60 → rngD 0 (N : Int) = some ((List.range N).map fun (k : Nat) => PyData.int (k : Int)) := fun N h => by
      have := rngD_nat (n := (N : Int)) (by omega) (by omega)
      rw [Int.toNat_natCast] at this
      exact this
    by_cases c : (M.length : Int) < 60
    · exact ⟨M.length, Nat.le_refl _, by omega, if_pos c, key _ (by omega)⟩
    · exact ⟨60, by omega, Nat.le_refl _, if_neg c, key _ (Nat.le_refl _)⟩
  obtain ⟨x2, x3, x4, x5, x6, x7, x8, e2⟩ := leaf_loop F M g N hN h60 st1
  obtain ⟨y4, y7, y9, st2, e3⟩ := loose_loop F x2 x3 x4 x5 x6 x7 x8 st1 h1
  have r3 := rngD_nat (n := 3) (by decide) (by decide)
  refine ⟨st2, ?_⟩
  show evSs cl I_law.body [.no, .pl, .no, .no, .no, .no, .no, .no, .no, .no] (pl0 ns0) = _
  generalize pl0 ns0 = st0 at *
  generalize M.map leafD = X at *
  rw [show (3 : Int).toNat = 3 from rfl] at r3
  generalize ((List.range 3).map fun (k : Nat) => PyData.int (k : Int)) = R3 at *
  generalize ((List.range N).map fun (k : Nat) => PyData.int (k : Int)) = RN at *
  rw [← hX] at hmn
  generalize (N : Int) = n at *
  simp [I_law, Cst.d, m0, e1, hmn, hrg, e2, r3, e3]
end K25

set_option Elab.async false
set_option linter.all false
set_option maxRecDepth 100000
set_option maxHeartbeats 0
namespace K25
open PySem PySem.Spec PyProof.Rows L2 Ip
section
variable {P : Program} {w : World} {K : PySem.W.Frag} {mg : Str → Option Value} {base : Heap}
structure All (P : Program) (w : World) (K : PySem.W.Frag) (mg : Str → Option Value) (base : Heap) : Prop where
  h_next_picks : Hv K mg "next_picks" (top 1) ["picks", "options"]
  h_pick_at : Hv K mg "pick_at" (top 2) ["picks", "at"]
  h_filled_picks : Hv K mg "filled_picks" (top 3) ["picks", "many"]
  h_law_mixed : Hv K mg "_law_mixed" (top 6) ["_law_cell", "_law_turn", "_law_limit"]
  h_law_draw : Hv K mg "_law_draw" (top 7) ["_law_pool_here", "_law_limit"]
  h_law_is_int : Hv K mg "_law_is_int" (top 8) ["_law_thing"]
  h_law_same : Hv K mg "_law_same" (top 9) ["_law_mine", "_law_due"]
  h_law_grow : Hv K mg "_law_grow" (top 10) ["_law_pool_here", "_law_picks", "_law_options", "_law_leaves"]
  h_law_parting : Hv K mg "_law_parting" (top 11) ["_law_one", "_law_other"]
  h_law_follows : Hv K mg "_law_follows" (top 12) ["_law_picks", "_law_options", "_law_due"]
  h_law_raised : Hv K mg "_law_raised" (top 13) ["_law_picks", "_law_options"]
  h_law_loose : Hv K mg "_law_loose" (top 14) ["_law_pool_here"]
  b_bool : mg "bool" = none
  b_int : mg "int" = none
  b_isinstance : mg "isinstance" = none
  b_len : mg "len" = none
  b_list : mg "list" = none
  b_min : mg "min" = none
  b_range : mg "range" = none
  b_str : mg "str" = none
  b_super : mg "super" = none
  b_tuple : mg "tuple" = none
  er : ∀ k : Nat, ∀ q ∈ es, ∃ C, ErrFo P w K mg base (k + 2) q.1 q.2 C
  ef : ∀ Γ : Gam, Γ.es = es → Γ.ks = ks → Γ.ts = ts → Γ.gs = gs → ErrFacts Γ K mg
def names : List Str := ["next_picks", "pick_at", "filled_picks", "_law_mixed", "_law_draw", "_law_is_int", "_law_same", "_law_parting", "_law_follows", "_law_raised", "_law_loose"]
def inames : List Str := ["_law_grow"]
def fnames : List Str := ["next_picks"]
def xnames : List Str := []
def hnames : List Str := []
def lnames : List Str := []
structure Beh (P : Program) (w : World) (K : PySem.W.Frag) (mg : Str → Option Value) (base : Heap) (n : Nat) : Prop where
  fo : ∀ f ∈ names, Fo P w K mg base (n + 2) (tb n) f
  fg : ∀ f ∈ xnames, FoG P w K mg base (n + 2) es (tb n) f
  fh : ∀ f ∈ hnames, FoH P w K mg base (n + 2) (tb n) f
  fl : ∀ f ∈ lnames, FoL P w K mg base (n + 2) (tb n) f
  fi : ∀ f ∈ inames, FoI P w K mg base (n + 2) (tb n) f
  ff : ∀ f ∈ fnames, FoR P w K mg base (n + 2) (tb n) f
  fd : ∀ q ∈ df, ∃ fa fd ps us, FnOk P w K mg base (L2N.CX P w) (n + 2) fa fd ps (spG mg es K (tb n) q.1) ∧ mg q.1 = some (.ref fa) ∧ PySem.W.keepIn K (.ref fa) = true ∧ Binds K fd ps us ∧ Vals (q.2.map Cst.v) us
theorem av_next_picks (A : All P w K mg base) {n : Nat} (b : Beh P w K mg base n) : Av P w K mg base (n + 2) (g_next_picks K (tb n)) where
  fn := fun _ g hg => b.fo g (by
    simp only [List.mem_cons, List.not_mem_nil, or_false] at hg
    rcases hg with rfl | rfl
    all_goals simp [names])
  fnh := fun g hg => b.fh g (by
    cases hg)
  bl := fun g hg => by
    simp only [List.mem_cons, List.not_mem_nil, or_false] at hg
    rcases hg with rfl | rfl
    · exact A.b_range
    · exact A.b_len
  xn := fun _ g hg => b.fg g (by
    cases hg)
  er := fun _ q hq => A.er n q hq
  df := fun _ q hq => b.fd q hq
  ef := A.ef _ rfl rfl rfl rfl
theorem av_pick_at (A : All P w K mg base) {n : Nat} (b : Beh P w K mg base n) : Av P w K mg base (n + 2) (g_pick_at K (tb n)) where
  fn := fun _ g hg => b.fo g (by
    cases hg)
  fnh := fun g hg => b.fh g (by
    cases hg)
  bl := fun g hg => by
    simp only [List.mem_cons, List.not_mem_nil, or_false] at hg
    subst hg
    exact A.b_len
  xn := fun _ g hg => b.fg g (by
    cases hg)
  er := fun _ q hq => A.er n q hq
  df := fun _ q hq => b.fd q hq
  ef := A.ef _ rfl rfl rfl rfl
theorem av_filled_picks (A : All P w K mg base) {n : Nat} (b : Beh P w K mg base n) : Av P w K mg base (n + 2) (g_filled_picks K (tb n)) where
  fn := fun _ g hg => b.fo g (by
    cases hg)
  fnh := fun g hg => b.fh g (by
    cases hg)
  bl := fun g hg => by
    simp only [List.mem_cons, List.not_mem_nil, or_false] at hg
    rcases hg with rfl | rfl
    · exact A.b_list
    · exact A.b_len
  xn := fun _ g hg => b.fg g (by
    cases hg)
  er := fun _ q hq => A.er n q hq
  df := fun _ q hq => b.fd q hq
  ef := A.ef _ rfl rfl rfl rfl
theorem av_law_mixed (A : All P w K mg base) {n : Nat} (b : Beh P w K mg base n) : Av P w K mg base (n + 2) (g_law_mixed K (tb n)) where
  fn := fun _ g hg => b.fo g (by
    cases hg)
  fnh := fun g hg => b.fh g (by
    cases hg)
  bl := fun g hg => by
    simp only [List.mem_cons, List.not_mem_nil, or_false] at hg
    subst hg
    exact A.b_int
  xn := fun _ g hg => b.fg g (by
    cases hg)
  er := fun _ q hq => A.er n q hq
  df := fun _ q hq => b.fd q hq
  ef := A.ef _ rfl rfl rfl rfl
theorem av_law_draw (A : All P w K mg base) {n : Nat} (b : Beh P w K mg base n) : Av P w K mg base (n + 2) (g_law_draw K (tb n)) where
  fn := fun _ g hg => b.fo g (by
    simp only [List.mem_cons, List.not_mem_nil, or_false] at hg
    subst hg
    all_goals simp [names])
  fnh := fun g hg => b.fh g (by
    cases hg)
  bl := fun g hg => by
    simp only [List.mem_cons, List.not_mem_nil, or_false] at hg
    rcases hg with rfl | rfl
    · exact A.b_int
    · exact A.b_len
  xn := fun _ g hg => b.fg g (by
    cases hg)
  er := fun _ q hq => A.er n q hq
  df := fun _ q hq => b.fd q hq
  ef := A.ef _ rfl rfl rfl rfl
theorem av_law_is_int (A : All P w K mg base) {n : Nat} (b : Beh P w K mg base n) : Av P w K mg base (n + 2) (g_law_is_int K (tb n)) where
  fn := fun _ g hg => b.fo g (by
    cases hg)
  fnh := fun g hg => b.fh g (by
    cases hg)
  bl := fun g hg => by
    simp only [List.mem_cons, List.not_mem_nil, or_false] at hg
    rcases hg with rfl | rfl | rfl
    · exact A.b_isinstance
    · exact A.b_int
    · exact A.b_bool
  xn := fun _ g hg => b.fg g (by
    cases hg)
  er := fun _ q hq => A.er n q hq
  df := fun _ q hq => b.fd q hq
  ef := A.ef _ rfl rfl rfl rfl
theorem av_law_same (A : All P w K mg base) {n : Nat} (b : Beh P w K mg base n) : Av P w K mg base (n + 2) (g_law_same K (tb n)) where
  fn := fun _ g hg => b.fo g (by
    simp only [List.mem_cons, List.not_mem_nil, or_false] at hg
    rcases hg with rfl | rfl
    all_goals simp [names])
  fnh := fun g hg => b.fh g (by
    cases hg)
  bl := fun g hg => by
    simp only [List.mem_cons, List.not_mem_nil, or_false] at hg
    rcases hg with rfl | rfl | rfl | rfl | rfl | rfl | rfl | rfl
    · exact A.b_range
    · exact A.b_len
    · exact A.b_isinstance
    · exact A.b_tuple
    · exact A.b_list
    · exact A.b_str
    · exact A.b_int
    · exact A.b_bool
  xn := fun _ g hg => b.fg g (by
    cases hg)
  er := fun _ q hq => A.er n q hq
  df := fun _ q hq => b.fd q hq
  ef := A.ef _ rfl rfl rfl rfl
theorem av_law_grow (A : All P w K mg base) {n : Nat} (b : Beh P w K mg base n) : Av P w K mg base (n + 2) (g_law_grow K (tb n)) where
  fn := fun _ g hg => b.fo g (by
    simp only [List.mem_cons, List.not_mem_nil, or_false] at hg
    subst hg
    all_goals simp [names])
  fnh := fun g hg => b.fh g (by
    cases hg)
  bl := fun g hg => by
    simp only [List.mem_cons, List.not_mem_nil, or_false] at hg
    rcases hg with rfl | rfl
    · exact A.b_range
    · exact A.b_len
  xn := fun _ g hg => b.fg g (by
    cases hg)
  er := fun _ q hq => A.er n q hq
  df := fun _ q hq => b.fd q hq
  ef := A.ef _ rfl rfl rfl rfl
  fi := fun _ g hg => b.fi g (by
    simp only [List.mem_cons, List.not_mem_nil, or_false] at hg
    subst hg
    all_goals simp [inames])
theorem av_law_parting (A : All P w K mg base) {n : Nat} (b : Beh P w K mg base n) : Av P w K mg base (n + 2) (g_law_parting K (tb n)) where
  fn := fun _ g hg => b.fo g (by
    cases hg)
  fnh := fun g hg => b.fh g (by
    cases hg)
  bl := fun g hg => by
    simp only [List.mem_cons, List.not_mem_nil, or_false] at hg
    rcases hg with rfl | rfl
    · exact A.b_len
    · exact A.b_range
  xn := fun _ g hg => b.fg g (by
    cases hg)
  er := fun _ q hq => A.er n q hq
  df := fun _ q hq => b.fd q hq
  ef := A.ef _ rfl rfl rfl rfl
theorem av_law_follows (A : All P w K mg base) {n : Nat} (b : Beh P w K mg base n) : Av P w K mg base (n + 2) (g_law_follows K (tb n)) where
  fn := fun _ g hg => b.fo g (by
    simp only [List.mem_cons, List.not_mem_nil, or_false] at hg
    rcases hg with rfl | rfl
    all_goals simp [names])
  fnh := fun g hg => b.fh g (by
    cases hg)
  bl := fun g hg => by
    simp only [List.mem_cons, List.not_mem_nil, or_false] at hg
    subst hg
    exact A.b_list
  xn := fun _ g hg => b.fg g (by
    cases hg)
  er := fun _ q hq => A.er n q hq
  df := fun _ q hq => b.fd q hq
  ef := A.ef _ rfl rfl rfl rfl
  ff := fun _ g hg => b.ff g (by
    simp only [List.mem_cons, List.not_mem_nil, or_false] at hg
    subst hg
    all_goals simp [fnames])
theorem av_law_raised (A : All P w K mg base) {n : Nat} (b : Beh P w K mg base n) : Av P w K mg base (n + 2) (g_law_raised K (tb n)) where
  fn := fun _ g hg => b.fo g (by
    cases hg)
  fnh := fun g hg => b.fh g (by
    cases hg)
  bl := fun g hg => by
    simp only [List.mem_cons, List.not_mem_nil, or_false] at hg
    rcases hg with rfl | rfl
    · exact A.b_range
    · exact A.b_len
  xn := fun _ g hg => b.fg g (by
    cases hg)
  er := fun _ q hq => A.er n q hq
  df := fun _ q hq => b.fd q hq
  ef := A.ef _ rfl rfl rfl rfl
theorem av_law_loose (A : All P w K mg base) {n : Nat} (b : Beh P w K mg base n) : Av P w K mg base (n + 2) (g_law_loose K (tb n)) where
  fn := fun _ g hg => b.fo g (by
    simp only [List.mem_cons, List.not_mem_nil, or_false] at hg
    subst hg
    all_goals simp [names])
  fnh := fun g hg => b.fh g (by
    cases hg)
  bl := fun g hg => by
    simp only [List.mem_cons, List.not_mem_nil, or_false] at hg
    rcases hg with rfl | rfl
    · exact A.b_len
    · exact A.b_range
  xn := fun _ g hg => b.fg g (by
    cases hg)
  er := fun _ q hq => A.er n q hq
  df := fun _ q hq => b.fd q hq
  ef := A.ef _ rfl rfl rfl rfl
theorem av_law (A : All P w K mg base) {n : Nat} (b : Beh P w K mg base n) : Av P w K mg base (n + 2) (g_law K (tb n)) where
  fn := fun _ g hg => b.fo g (by
    simp only [List.mem_cons, List.not_mem_nil, or_false] at hg
    rcases hg with rfl | rfl | rfl | rfl
    all_goals simp [names])
  fnh := fun g hg => b.fh g (by
    cases hg)
  bl := fun g hg => by
    simp only [List.mem_cons, List.not_mem_nil, or_false] at hg
    rcases hg with rfl | rfl | rfl
    · exact A.b_range
    · exact A.b_min
    · exact A.b_len
  xn := fun _ g hg => b.fg g (by
    cases hg)
  er := fun _ q hq => A.er n q hq
  df := fun _ q hq => b.fd q hq
  ef := A.ef _ rfl rfl rfl rfl
  fi := fun _ g hg => b.fi g (by
    simp only [List.mem_cons, List.not_mem_nil, or_false] at hg
    subst hg
    all_goals simp [inames])
theorem beh (A : All P w K mg base) : ∀ n, Beh P w K mg base n
  | 0 => ⟨fun f hg => by
      simp only [names, List.mem_cons, List.not_mem_nil, or_false] at hg
      rcases hg with rfl | rfl | rfl | rfl | rfl | rfl | rfl | rfl | rfl | rfl | rfl
      · exact fo_zero A.h_next_picks
      · exact fo_zero A.h_pick_at
      · exact fo_zero A.h_filled_picks
      · exact fo_zero A.h_law_mixed
      · exact fo_zero A.h_law_draw
      · exact fo_zero A.h_law_is_int
      · exact fo_zero A.h_law_same
      · exact fo_zero A.h_law_parting
      · exact fo_zero A.h_law_follows
      · exact fo_zero A.h_law_raised
      · exact fo_zero A.h_law_loose
    , fun f hg => by
      simp [xnames] at hg
    , fun f hg => by
      simp [hnames] at hg
    , fun f hg => by
      simp [lnames] at hg
    , fun f hg => by
      simp only [inames, List.mem_cons, List.not_mem_nil, or_false] at hg
      subst hg
      exact foi_zero A.h_law_grow
    , fun f hg => by
      simp only [fnames, List.mem_cons, List.not_mem_nil, or_false] at hg
      subst hg
      exact for_zero A.h_next_picks
    , fun q hg => by
      simp [df] at hg
    ⟩
  | n + 1 => ⟨fun f hg => by
      have b := beh A n
      simp only [names, List.mem_cons, List.not_mem_nil, or_false] at hg
      rcases hg with rfl | rfl | rfl | rfl | rfl | rfl | rfl | rfl | rfl | rfl | rfl
      · exact FoR.fo (for_step A.h_next_picks s_next_picks rfl rfl rfl rfl (d_next_picks K (tb n)) rfl (fun as s => tb_next_picks n as s) (av_next_picks A b))
      · exact fo_step A.h_pick_at s_pick_at rfl rfl rfl rfl (d_pick_at K (tb n)) rfl (fun as s => tb_pick_at n as s) (av_pick_at A b)
      · exact fo_step A.h_filled_picks s_filled_picks rfl rfl rfl rfl (d_filled_picks K (tb n)) rfl (fun as s => tb_filled_picks n as s) (av_filled_picks A b)
      · exact fo_step A.h_law_mixed s_law_mixed rfl rfl rfl rfl (d_law_mixed K (tb n)) rfl (fun as s => tb_law_mixed n as s) (av_law_mixed A b)
      · exact fo_step A.h_law_draw s_law_draw rfl rfl rfl rfl (d_law_draw K (tb n)) rfl (fun as s => tb_law_draw n as s) (av_law_draw A b)
      · exact fo_step A.h_law_is_int s_law_is_int rfl rfl rfl rfl (d_law_is_int K (tb n)) rfl (fun as s => tb_law_is_int n as s) (av_law_is_int A b)
      · exact fo_step A.h_law_same s_law_same rfl rfl rfl rfl (d_law_same K (tb n)) rfl (fun as s => tb_law_same n as s) (av_law_same A b)
      · exact fo_step A.h_law_parting s_law_parting rfl rfl rfl rfl (d_law_parting K (tb n)) rfl (fun as s => tb_law_parting n as s) (av_law_parting A b)
      · exact fo_step A.h_law_follows s_law_follows rfl rfl rfl rfl (d_law_follows K (tb n)) rfl (fun as s => tb_law_follows n as s) (av_law_follows A b)
      · exact fo_step A.h_law_raised s_law_raised rfl rfl rfl rfl (d_law_raised K (tb n)) rfl (fun as s => tb_law_raised n as s) (av_law_raised A b)
      · exact fo_step A.h_law_loose s_law_loose rfl rfl rfl rfl (d_law_loose K (tb n)) rfl (fun as s => tb_law_loose n as s) (av_law_loose A b)
    , fun f hg => by
      have b := beh A n
      simp [xnames] at hg
    , fun f hg => by
      have b := beh A n
      simp [hnames] at hg
    , fun f hg => by
      have b := beh A n
      simp [lnames] at hg
    , fun f hg => by
      have b := beh A n
      simp only [inames, List.mem_cons, List.not_mem_nil, or_false] at hg
      subst hg
      exact foi_step A.h_law_grow s_law_grow rfl rfl rfl rfl (d_law_grow K (tb n)) rfl (fun as s => tb_law_grow n as s) (av_law_grow A b)
    , fun f hg => by
      have b := beh A n
      simp only [fnames, List.mem_cons, List.not_mem_nil, or_false] at hg
      subst hg
      exact for_step A.h_next_picks s_next_picks rfl rfl rfl rfl (d_next_picks K (tb n)) rfl (fun as s => tb_next_picks n as s) (av_next_picks A b)
    , fun q hg => by
      have b := beh A n
      simp [df] at hg
    ⟩
theorem ok_law {f : Addr} {fd fdp : FuncData} {fp : Addr} (A : All P w K mg base) (F : FunD K "law" "law" (defArgs (top 15)) (defBody (top 15)) (defScope (top 15)) [] [] f fd) (Fp : FunD K "_law_pool" "_law_pool" (defArgs (top 5)) (defBody (top 5)) (defScope (top 5)) [] [] fp fdp) (hp : mg "_law_pool" = some (.ref fp)) :
    FnOk P w K mg base CX0 (depth + 3) f fd ["_law_script"] (spLaw K) := by
  have Gp : FnOk P w K mg base (L2N.CX P w) 1 fp fdp ["_law_script"] (spPool K) := pool_ok Fp ⟨rfl, rfl, rfl, by decide +kernel, rfl, by decide +kernel, by decide +kernel⟩ rfl A.b_list rfl (Or.inl rfl) (by decide) (by decide)
  have bp : Binds K fdp ["_law_script"] [] := Fp.bindsN fun _ _ _ _ _ _ us hl => match us, hl with | [_], _ => rfl
  exact quiet_fn (law_ok (Γ := g_law K (tb depth)) (I := I_law) (k := depth + 1) (N := n_law.drop 2) F s_law rfl rfl rfl rfl (d_law K (tb depth)) rfl (av_law A (beh A depth)) Gp hp Fp.kp bp rfl (by first | exact Or.inl rfl | exact Or.inr (Or.inl rfl)) (by first | exact Or.inl rfl | exact Or.inr rfl) (by decide) (by decide) (by decide) (fun ns hl => true_ ns hl)) (fun _ _ _ _ z => z)
end
def dd_next_picks : He.DefD := ⟨("next_picks", none), "next_picks", "next_picks", defArgs (top 1), defBody (top 1), defScope (top 1), [], []⟩
def dd_pick_at : He.DefD := ⟨("pick_at", none), "pick_at", "pick_at", defArgs (top 2), defBody (top 2), defScope (top 2), [], []⟩
def dd_filled_picks : He.DefD := ⟨("filled_picks", none), "filled_picks", "filled_picks", defArgs (top 3), defBody (top 3), defScope (top 3), [], []⟩
def dd_law_mixed : He.DefD := ⟨("_law_mixed", none), "_law_mixed", "_law_mixed", defArgs (top 6), defBody (top 6), defScope (top 6), [], []⟩
def dd_law_draw : He.DefD := ⟨("_law_draw", none), "_law_draw", "_law_draw", defArgs (top 7), defBody (top 7), defScope (top 7), [], []⟩
def dd_law_is_int : He.DefD := ⟨("_law_is_int", none), "_law_is_int", "_law_is_int", defArgs (top 8), defBody (top 8), defScope (top 8), [], []⟩
def dd_law_same : He.DefD := ⟨("_law_same", none), "_law_same", "_law_same", defArgs (top 9), defBody (top 9), defScope (top 9), [], []⟩
def dd_law_grow : He.DefD := ⟨("_law_grow", none), "_law_grow", "_law_grow", defArgs (top 10), defBody (top 10), defScope (top 10), [], []⟩
def dd_law_parting : He.DefD := ⟨("_law_parting", none), "_law_parting", "_law_parting", defArgs (top 11), defBody (top 11), defScope (top 11), [], []⟩
def dd_law_follows : He.DefD := ⟨("_law_follows", none), "_law_follows", "_law_follows", defArgs (top 12), defBody (top 12), defScope (top 12), [], []⟩
def dd_law_raised : He.DefD := ⟨("_law_raised", none), "_law_raised", "_law_raised", defArgs (top 13), defBody (top 13), defScope (top 13), [], []⟩
def dd_law_loose : He.DefD := ⟨("_law_loose", none), "_law_loose", "_law_loose", defArgs (top 14), defBody (top 14), defScope (top 14), [], []⟩
def dd_law_pool : He.DefD := ⟨("_law_pool", none), "_law_pool", "_law_pool", defArgs (top 5), defBody (top 5), defScope (top 5), [], []⟩
def dd_law : He.DefD := ⟨("law", none), "law", "law", defArgs (top 15), defBody (top 15), defScope (top 15), [], []⟩
def fn : List He.DefD := [dd_next_picks, dd_pick_at, dd_filled_picks, dd_law_mixed, dd_law_draw, dd_law_is_int, dd_law_same, dd_law_grow, dd_law_parting, dd_law_follows, dd_law_raised, dd_law_loose, dd_law_pool, dd_law]
def fa : List He.Fa := [.glo "next_picks", .glo "pick_at", .glo "filled_picks", .glo "_law_mixed", .glo "_law_draw", .glo "_law_is_int", .glo "_law_same", .glo "_law_grow", .glo "_law_parting", .glo "_law_follows", .glo "_law_raised", .glo "_law_loose", .glo "_law_pool", .glo "law", .free "bool", .free "int", .free "isinstance", .free "len", .free "list", .free "min", .free "range", .free "str", .free "super", .free "tuple"]
def cbody : Stmt → List Stmt
  | .ClassDef (body := b) .. => b
  | _ => []
def init (i : Nat) : Stmt := (cbody (top i)).headD (.Pass ⟨0, 0, 0, 0⟩)
def er : List ErrD := []
abbrev bn : List (Str × String) := []
def ex (K : PySem.W.Frag) : Bool := errsB bn es ks ts K
abbrev R : PySem.W.OpenRow := PySem.W.OpenLaw.row PySem.Challenge.rw_quickways_k25_whole_next_picks_go_throug
abbrev hk : PySem.W.Hook := hookF 4 R.prog fa fn er ex
def ob (s : PySem.W.SharedT) : AlF := obsFG 4 R.prog fa fn er ex (HandSHeadRun.getT s)
theorem ob_eq (s : PySem.W.SharedT) : ob s = hk.obs s.abs := obsFG_eq (HandSHeadRun.getT_eq s)
def loose1 : List Str := [Str.ofString "next_picks", Str.ofString "pick_at", Str.ofString "filled_picks", Str.ofString "_law_pool", Str.ofString "_law_mixed", Str.ofString "_law_draw", Str.ofString "_law_is_int", Str.ofString "_law_same", Str.ofString "_law_grow", Str.ofString "_law_parting", Str.ofString "_law_follows", Str.ofString "_law_raised", Str.ofString "_law_loose"]
def loose2 : List Str := []
theorem run_false (w : World) : HandSHeadRun.RunEq R (PySem.W.view R.prog [15]) hk ob 6800 (loose1 ++ loose2) (w.withFollow "special-get-raises" false) := by
  intro os
  kernel_rfl
theorem run_true (w : World) : HandSHeadRun.RunEq R (PySem.W.view R.prog [15]) hk ob 6800 (loose1 ++ loose2) (w.withFollow "special-get-raises" true) := by
  intro os
  kernel_rfl
theorem run (w : World) : HandSHeadRun.RunEq R (PySem.W.view R.prog [15]) hk ob 6800 (loose1 ++ loose2) w :=
  PySem.W.byRow2 "special-get-raises" (P := fun w => HandSHeadRun.RunEq R (PySem.W.view R.prog [15]) hk ob 6800 (loose1 ++ loose2) w) run_false run_true w
abbrev own : List Str := []
theorem facts {w : World} {K : PySem.W.Frag} {h : Heap} {mg : Str → Option Value} {f : Addr} (X : K.In h) (G : h.Ns mainGlobals mg) (hfa : mg ("law" : Str) = some (.ref f)) (c : SaysF R.prog fa fn er ex K) :
    ∃ fd : FuncData, (∀ (s : Shared) (v : Value), BindsTo s fd ⟨[v], []⟩ [("_law_script", v)]) ∧ ∀ base : Heap, K.In base → base.Ns mainGlobals mg → FnOk R.prog w K mg base CX0 (depth + 3) f fd ["_law_script"] (spLaw K) := by
  obtain ⟨f0, F0⟩ := c.d.def_ 0 (d := dd_next_picks) rfl
  have G0 := He.glo_ok X G (c.d.fact 0 (f := .glo "next_picks") rfl)
  obtain ⟨f1, F1⟩ := c.d.def_ 1 (d := dd_pick_at) rfl
  have G1 := He.glo_ok X G (c.d.fact 1 (f := .glo "pick_at") rfl)
  obtain ⟨f2, F2⟩ := c.d.def_ 2 (d := dd_filled_picks) rfl
  have G2 := He.glo_ok X G (c.d.fact 2 (f := .glo "filled_picks") rfl)
  obtain ⟨f3, F3⟩ := c.d.def_ 3 (d := dd_law_mixed) rfl
  have G3 := He.glo_ok X G (c.d.fact 3 (f := .glo "_law_mixed") rfl)
  obtain ⟨f4, F4⟩ := c.d.def_ 4 (d := dd_law_draw) rfl
  have G4 := He.glo_ok X G (c.d.fact 4 (f := .glo "_law_draw") rfl)
  obtain ⟨f5, F5⟩ := c.d.def_ 5 (d := dd_law_is_int) rfl
  have G5 := He.glo_ok X G (c.d.fact 5 (f := .glo "_law_is_int") rfl)
  obtain ⟨f6, F6⟩ := c.d.def_ 6 (d := dd_law_same) rfl
  have G6 := He.glo_ok X G (c.d.fact 6 (f := .glo "_law_same") rfl)
  obtain ⟨f7, F7⟩ := c.d.def_ 7 (d := dd_law_grow) rfl
  have G7 := He.glo_ok X G (c.d.fact 7 (f := .glo "_law_grow") rfl)
  obtain ⟨f8, F8⟩ := c.d.def_ 8 (d := dd_law_parting) rfl
  have G8 := He.glo_ok X G (c.d.fact 8 (f := .glo "_law_parting") rfl)
  obtain ⟨f9, F9⟩ := c.d.def_ 9 (d := dd_law_follows) rfl
  have G9 := He.glo_ok X G (c.d.fact 9 (f := .glo "_law_follows") rfl)
  obtain ⟨f10, F10⟩ := c.d.def_ 10 (d := dd_law_raised) rfl
  have G10 := He.glo_ok X G (c.d.fact 10 (f := .glo "_law_raised") rfl)
  obtain ⟨f11, F11⟩ := c.d.def_ 11 (d := dd_law_loose) rfl
  have G11 := He.glo_ok X G (c.d.fact 11 (f := .glo "_law_loose") rfl)
  obtain ⟨f12, F12⟩ := c.d.def_ 12 (d := dd_law_pool) rfl
  have G12 := He.glo_ok X G (c.d.fact 12 (f := .glo "_law_pool") rfl)
  obtain ⟨f13, F13⟩ := c.d.def_ 13 (d := dd_law) rfl
  have G13 := He.glo_ok X G (c.d.fact 13 (f := .glo "law") rfl)
  have B0 := He.free_ok X G (c.d.fact 14 (f := .free "bool") rfl)
  have B1 := He.free_ok X G (c.d.fact 15 (f := .free "int") rfl)
  have B2 := He.free_ok X G (c.d.fact 16 (f := .free "isinstance") rfl)
  have B3 := He.free_ok X G (c.d.fact 17 (f := .free "len") rfl)
  have B4 := He.free_ok X G (c.d.fact 18 (f := .free "list") rfl)
  have B5 := He.free_ok X G (c.d.fact 19 (f := .free "min") rfl)
  have B6 := He.free_ok X G (c.d.fact 20 (f := .free "range") rfl)
  have B7 := He.free_ok X G (c.d.fact 21 (f := .free "str") rfl)
  have B8 := He.free_ok X G (c.d.fact 22 (f := .free "super") rfl)
  have B9 := He.free_ok X G (c.d.fact 23 (f := .free "tuple") rfl)
  have E := c.ex
  unfold ex at E
  have E0 := E
  have A : ∀ base : Heap, All R.prog w K mg base := fun base => ⟨
    ⟨_, f0, _, F0, G0, FunD.bindsN (ps := ["picks", "options"]) F0 fun _ _ _ _ _ _ us hl => match us, hl with | [_, _], _ => rfl⟩,
    ⟨_, f1, _, F1, G1, FunD.bindsN (ps := ["picks", "at"]) F1 fun _ _ _ _ _ _ us hl => match us, hl with | [_, _], _ => rfl⟩,
    ⟨_, f2, _, F2, G2, FunD.bindsN (ps := ["picks", "many"]) F2 fun _ _ _ _ _ _ us hl => match us, hl with | [_, _], _ => rfl⟩,
    ⟨_, f3, _, F3, G3, FunD.bindsN (ps := ["_law_cell", "_law_turn", "_law_limit"]) F3 fun _ _ _ _ _ _ us hl => match us, hl with | [_, _, _], _ => rfl⟩,
    ⟨_, f4, _, F4, G4, FunD.bindsN (ps := ["_law_pool_here", "_law_limit"]) F4 fun _ _ _ _ _ _ us hl => match us, hl with | [_, _], _ => rfl⟩,
    ⟨_, f5, _, F5, G5, FunD.bindsN (ps := ["_law_thing"]) F5 fun _ _ _ _ _ _ us hl => match us, hl with | [_], _ => rfl⟩,
    ⟨_, f6, _, F6, G6, FunD.bindsN (ps := ["_law_mine", "_law_due"]) F6 fun _ _ _ _ _ _ us hl => match us, hl with | [_, _], _ => rfl⟩,
    ⟨_, f7, _, F7, G7, FunD.bindsN (ps := ["_law_pool_here", "_law_picks", "_law_options", "_law_leaves"]) F7 fun _ _ _ _ _ _ us hl => match us, hl with | [_, _, _, _], _ => rfl⟩,
    ⟨_, f8, _, F8, G8, FunD.bindsN (ps := ["_law_one", "_law_other"]) F8 fun _ _ _ _ _ _ us hl => match us, hl with | [_, _], _ => rfl⟩,
    ⟨_, f9, _, F9, G9, FunD.bindsN (ps := ["_law_picks", "_law_options", "_law_due"]) F9 fun _ _ _ _ _ _ us hl => match us, hl with | [_, _, _], _ => rfl⟩,
    ⟨_, f10, _, F10, G10, FunD.bindsN (ps := ["_law_picks", "_law_options"]) F10 fun _ _ _ _ _ _ us hl => match us, hl with | [_, _], _ => rfl⟩,
    ⟨_, f11, _, F11, G11, FunD.bindsN (ps := ["_law_pool_here"]) F11 fun _ _ _ _ _ _ us hl => match us, hl with | [_], _ => rfl⟩,
    B0,
    B1,
    B2,
    B3,
    B4,
    B5,
    B6,
    B7,
    B8,
    B9,
    (fun k q hq => by cases hq),
    (fun Γ h1 h2 h3 h4 => errFacts_of own bn (by rw [h1, h2, h3]; exact E0) (fun x hx => by
      simp [own] at hx) (by rw [h1]; rfl) (by rw [h2]; rfl) (by rw [h3]; rfl) (fun x n hx => by
      simp only [bn, List.lookup] at hx
      cases hx) (fun q hq => by
      rw [h4] at hq
      cases hq))⟩
  have e := hfa.symm.trans G13
  cases e
  have b := FunD.bindsA (ps := ["_law_script"]) F13 fun _ _ _ _ _ _ us hl => match us, hl with | [_], _ => rfl
  exact ⟨f13, fun s v => b s [v] rfl, fun base _ _ => ok_law (A base) F13 F12 G12⟩
end K25
open PySem PySem.W PySem.Calls PyProof.Rows
theorem PySem.Challenge.cw_quickways_k25_whole_next_picks_go_throug_holds : PySem.Challenge.rw_quickways_k25_whole_next_picks_go_throug.Holds := by
  w_on; o_law
  refine HandSHeadRun.head_any (r := OpenLaw.row PySem.Challenge.rw_quickways_k25_whole_next_picks_go_throug) (q := view (OpenLaw.row PySem.Challenge.rw_quickways_k25_whole_next_picks_go_throug).prog [15]) (H := K25.hk) (ob := K25.ob) (M := 6800) (loose := K25.loose1 ++ K25.loose2) (d := HandSHeadRun.topDef (OpenLaw.row PySem.Challenge.rw_quickways_k25_whole_next_picks_go_throug).prog 15) (kwd := []) K25.ob_eq
    (by kernel_rfl) (fun s => by kernel_rfl) K25.run (by kernel_rfl) (by kernel_rfl) (by kernel_rfl) (by rfl) (by first | assumption | decide +kernel) (by decide +kernel) ⟨rfl, rfl, rfl, rfl, rfl, by decide +kernel⟩ ?hw ?hc
  case hw => w_witness2
  case hc =>
    refine L2.walk_ofE (l := PySem.Challenge.rw_quickways_k25_whole_next_picks_go_throug) (n := 63) (k := K25.depth + 3) (x := "_law_script") (CX := L2.CX0) rfl (by decide) (by kernel_rfl) ⟨rfl, by decide, by decide⟩ ?F (fun _ _ _ _ z => z)
    intro w mg fa h Y G hmg0
    obtain ⟨K, KX, c⟩ := Y
    have hmg : mg ("law" : PySem.Str) = some (.ref fa) := by
      have e : (HandSHeadRun.topDef (OpenLaw.row PySem.Challenge.rw_quickways_k25_whole_next_picks_go_throug).prog 15).name = ("law" : PySem.Str) := by kernel_rfl
      rw [← e]
      exact hmg0
    obtain ⟨fd, hb, hF⟩ := K25.facts (w := w) KX G hmg c
    exact ⟨K, fd, Ip.spLaw K, KX, hb, fun H a ns hl _ hS => ⟨a, ns, rfl, hS, hl, fun _ => rfl⟩, hF⟩

