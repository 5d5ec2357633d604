import PyProof.Rows.All
import Wide.All
import OpenK.AllK
import Wide.FinOn
import HandS.ForMost
import HandS.TupAny
import HandS.IsInst
import HandS.WordsExc
import HandS.NoneIn
import HandS.Defaults
import HandS.More
import HandS.Head0
import HandS.Head1
import HandS.Head2
import HandS.HeadEnd
import HandS.HeadHook1
import HandS.HeadHook2
import PySem.Challenge.RW_quickways_k04_names_of_rows
set_option Elab.async false
set_option linter.all false
set_option maxRecDepth 100000
set_option maxHeartbeats 4000000
/-! Data over the hand layer: values by what they hold, the heap in three parts (known, lent out, own). -/
namespace Ip
open PySem L2
abbrev D := PyData
/-- every known object stays -/
def Ex (H H' : Hp) : Prop := ∀ a o, H a = some o → H' a = some o
theorem Ex.refl (H : Hp) : Ex H H := fun _ _ h => h
theorem Ex.trans {H H1 H2 : Hp} (a : Ex H H1) (b : Ex H1 H2) : Ex H H2 := fun x o h => b x o (a x o h)
theorem Ex.new {H : Hp} {q : Addr} {o : HO} (h : H q = none) : Ex H (upd H q o) := fun a u e => by
  rw [upd_ne (ne_of_none e h)]
  exact e
theorem Ex.free {H H' : Hp} {q : Addr} (e : Ex H H') (h : H' q = none) : H q = none := by
  cases h1 : H q with
  | none => rfl
  | some o =>
    rw [e q o h1] at h
    cases h
theorem Ex.up {B H : Hp} {q : Addr} {o : HO} (e : Ex B H) : Ex (upd B q o) (upd H q o) := fun a u h => by
  by_cases ha : a = q
  · subst ha
    rw [upd_same] at h ⊢
    exact h
  · rw [upd_ne ha] at h ⊢
    exact e a u h
theorem Ex.right {B H : Hp} {q : Addr} {o : HO} (e : Ex B H) (h : B q = none) : Ex B (upd H q o) := fun a u ha => by
  rw [upd_ne (ne_of_none ha h)]
  exact e a u ha
/-! ### what a value holds -/
mutual
inductive Rp (K : PySem.W.Frag) (B : Hp) : V → D → Prop
  | non : Rp K B .non .none
  | bl (b : Bool) : Rp K B (.bl b) (.bool b)
  | int (i : Int) : Rp K B (.int i) (.int i)
  | str (x : Str) : Rp K B (.str x) (.str x)
  | lst {a : Addr} {xs : List V} {ds : List D} : B a = some (.lst xs) → RpA K B xs ds → Rp K B (.ref a) (.list ds)
  | tup {a : Addr} {xs : List V} {ds : List D} : SqT K B a xs → RpA K B xs ds → Rp K B (.ref a) (.tuple ds)
inductive RpA (K : PySem.W.Frag) (B : Hp) : List V → List D → Prop
  | nil : RpA K B [] []
  | cons {v : V} {vs : List V} {d : D} {ds : List D} : Rp K B v d → RpA K B vs ds → RpA K B (v :: vs) (d :: ds)
end
theorem sqt_mono {K : PySem.W.Frag} {B B' : Hp} (e : Ex B B') {a : Addr} {xs : List V} (h : SqT K B a xs) : SqT K B' a xs := by
  rcases h with (h | ⟨o, h⟩) | h
  · exact .inl (.inl (e _ _ h))
  · exact .inl (.inr ⟨o, e _ _ h⟩)
  · exact .inr h
mutual
theorem Rp.mono {K : PySem.W.Frag} {B B' : Hp} (e : Ex B B') : ∀ {d : D} {v : V}, Rp K B v d → Rp K B' v d
  | _, _, .non => .non
  | _, _, .bl b => .bl b
  | _, _, .int i => .int i
  | _, _, .str x => .str x
  | _, _, .lst h r => .lst (e _ _ h) (RpA.mono e r)
  | _, _, .tup h r => .tup (sqt_mono e h) (RpA.mono e r)
theorem RpA.mono {K : PySem.W.Frag} {B B' : Hp} (e : Ex B B') : ∀ {ds : List D} {vs : List V}, RpA K B vs ds → RpA K B' vs ds
  | _, _, .nil => .nil
  | _, _, .cons h r => .cons (Rp.mono e h) (RpA.mono e r)
end
section
variable {K : PySem.W.Frag} {B : Hp}
theorem RpA.length : ∀ {vs : List V} {ds : List D}, RpA K B vs ds → vs.length = ds.length
  | _, _, .nil => rfl
  | _, _, .cons _ r => congrArg Nat.succ (RpA.length r)
theorem RpA.append : ∀ {vs us : List V} {ds es : List D}, RpA K B vs ds → RpA K B us es → RpA K B (vs ++ us) (ds ++ es)
  | _, _, _, _, .nil, s => s
  | _, _, _, _, .cons h r, s => .cons h (RpA.append r s)
theorem RpA.get : ∀ {vs : List V} {ds : List D} {i : Nat} {d : D}, RpA K B vs ds → ds[i]? = some d → ∃ v, vs[i]? = some v ∧ Rp K B v d
  | _, _, _, _, .nil, e => by simp at e
  | _, _, 0, _, .cons h _, e => by simp at e; subst e; exact ⟨_, rfl, h⟩
  | _, _, i + 1, d, .cons _ r, e => by
    obtain ⟨v, h1, h2⟩ := RpA.get (i := i) (d := d) r (by simpa using e)
    exact ⟨v, by simpa using h1, h2⟩
theorem RpA.getV : ∀ {vs : List V} {ds : List D} {i : Nat} {v : V}, RpA K B vs ds → vs[i]? = some v → ∃ d, ds[i]? = some d ∧ Rp K B v d
  | _, _, _, _, .nil, e => by simp at e
  | _, _, 0, _, .cons h _, e => by simp at e; subst e; exact ⟨_, rfl, h⟩
  | _, _, i + 1, v, .cons _ r, e => by
    obtain ⟨d, h1, h2⟩ := RpA.getV (i := i) (v := v) r (by simpa using e)
    exact ⟨d, by simpa using h1, h2⟩
theorem RpA.take : ∀ {vs : List V} {ds : List D} (n : Nat), RpA K B vs ds → RpA K B (vs.take n) (ds.take n)
  | _, _, 0, _ => .nil
  | _, _, _ + 1, .nil => .nil
  | _, _, n + 1, .cons h r => .cons h (RpA.take n r)
theorem RpA.drop : ∀ {vs : List V} {ds : List D} (n : Nat), RpA K B vs ds → RpA K B (vs.drop n) (ds.drop n)
  | _, _, 0, r => r
  | _, _, _ + 1, .nil => .nil
  | _, _, n + 1, .cons _ r => RpA.drop n r
theorem RpA.set : ∀ {vs : List V} {ds : List D} {v : V} {d : D} (i : Nat), RpA K B vs ds → Rp K B v d → RpA K B (vs.set i v) (ds.set i d)
  | _, _, _, _, _, .nil, _ => .nil
  | _, _, _, _, 0, .cons _ r, h => .cons h r
  | _, _, _, _, i + 1, .cons h0 r, h => .cons h0 (RpA.set i r h)
theorem RpA.one {v : V} {d : D} (h : Rp K B v d) : RpA K B [v] [d] := .cons h .nil
mutual
theorem Rp.dp {H : Hp} (e : Ex B H) : ∀ {d : D} {v : V}, Rp K B v d → Dp K H v d
  | _, _, .non => .non
  | _, _, .bl b => .bl b
  | _, _, .int i => .int i
  | _, _, .str x => .str x
  | _, _, .lst h r => .lst (Or.inl (Or.inl (e _ _ h))) (RpA.dp e r)
  | _, _, .tup h r => .tup (sqt_mono e h) (RpA.dp e r)
theorem RpA.dp {H : Hp} (e : Ex B H) : ∀ {ds : List D} {vs : List V}, RpA K B vs ds → DpAll K H vs ds
  | _, _, .nil => .nil
  | _, _, .cons h r => .cons (Rp.dp e h) (RpA.dp e r)
end
end
/-! ### the pool of draws -/
/-- where it stands, and where its script -/
structure Pa where
  a : Addr
  q : Addr
instance : Coe Pa Addr := ⟨Pa.a⟩
structure Pl where
  ns : List Int
  i : Int
  r : Int
  c : Int
  l : Int
def PlAt (B H : Hp) (p : Pa) (s : Pl) : Prop := H p = some (.lst [.ref p.q, .int s.i, .int s.r, .int s.c, .int s.l]) ∧ B p.q = some (.lst (s.ns.map V.int))
/-! ### the heap in parts: B is known and stays; F is the callers' own; the pool stands at p -/
structure Bs (p : Pa) (st : Pl) (B F H : Hp) : Prop where
  b : Ex B H
  f : Ex F H
  d : ∀ a o, F a = some o → B a = none
  pf : F p = none
  pb : B p = none
  pl : PlAt B H p st
theorem Bs.pn {p : Pa} {st : Pl} {B F H : Hp} (w : Bs p st B F H) {q : Addr} (h : H q = none) : q ≠ p := fun e => by
  obtain ⟨h1, _⟩ := w.pl
  rw [e, h1] at h
  cases h
/-- a new object is known -/
theorem Bs.new {p : Pa} {st : Pl} {B F H : Hp} (w : Bs p st B F H) {q : Addr} {o : HO} (h : H q = none) : Bs p st (upd B q o) F (upd H q o) where
  b := w.b.up
  f := w.f.right (w.f.free h)
  d := fun a u e => by
    rw [upd_ne (ne_of_none e (w.f.free h))]
    exact w.d a u e
  pf := w.pf
  pb := by
    rw [upd_ne (fun e => w.pn h e.symm)]
    exact w.pb
  pl := by
    obtain ⟨h1, h2⟩ := w.pl
    exact ⟨by rw [upd_ne (fun e => w.pn h e.symm)]; exact h1, by rw [upd_ne (ne_of_none h2 (w.b.free h))]; exact h2⟩
/-! ### names of a def -/
inductive Sl where
  | no
  | im (d : D)
  | ow (ds : List D)
  | pl
def SlR (K : PySem.W.Frag) (p : Pa) (B M : Hp) : Sl → Option V → Prop
  | .no, _ => True
  | .im d, some v => Rp K B v d
  | .im _, none => False
  | .ow ds, some (.ref a) => ∃ xs, M a = some (.lst xs) ∧ RpA K B xs ds
  | .ow _, _ => False
  | .pl, some (.ref a) => a = p
  | .pl, _ => False
structure EnR (K : PySem.W.Frag) (p : Pa) (B M : Hp) (env : List Sl) (σ : L2.St) : Prop where
  len : env.length = σ.length
  at_ : ∀ (i : Nat) (s : Sl), env[i]? = some s → ∃ o : Option V, σ[i]? = some o ∧ SlR K p B M s o
  ap : ∀ (i j : Nat) (ds es : List D) (a : Addr), env[i]? = some (.ow ds) → env[j]? = some (.ow es) → σ[i]? = some (some (.ref a)) → σ[j]? = some (some (.ref a)) → i = j
structure Rel (K : PySem.W.Frag) (p : Pa) (st : Pl) (B M F : Hp) (env : List Sl) (σ : L2.St) (H : Hp) : Prop where
  bs : Bs p st B F H
  m : Ex M H
  md : ∀ a o, M a = some o → B a = none ∧ F a = none ∧ a ≠ p
  en : EnR K p B M env σ
section
variable {K : PySem.W.Frag} {p : Pa} {st : Pl} {B M F : Hp} {env : List Sl} {σ : L2.St} {H : Hp}
theorem SlR.mono {B' : Hp} (e : Ex B B') : ∀ {s : Sl} {o : Option V}, SlR K p B M s o → SlR K p B' M s o
  | .no, _, _ => True.intro
  | .im _, some _, h => Rp.mono e h
  | .im _, none, h => h
  | .ow _, some (.ref _), h => by
    obtain ⟨xs, h1, h2⟩ := h
    exact ⟨xs, h1, h2.mono e⟩
  | .ow _, some .non, h | .ow _, some (.bl _), h | .ow _, some (.int _), h | .ow _, some (.str _), h | .ow _, some (.byt _), h | .ow _, some (.flt _), h | .ow _, some (.ty _), h | .ow _, none, h => h
  | .pl, some (.ref _), h => h
  | .pl, some .non, h | .pl, some (.bl _), h | .pl, some (.int _), h | .pl, some (.str _), h | .pl, some (.byt _), h | .pl, some (.flt _), h | .pl, some (.ty _), h | .pl, none, h => h
theorem EnR.mono {B' : Hp} (e : Ex B B') (h : EnR K p B M env σ) : EnR K p B' M env σ := ⟨h.len, fun i s hi => by
  obtain ⟨o, h1, h2⟩ := h.at_ i s hi
  exact ⟨o, h1, h2.mono e⟩, h.ap⟩
/-- a new object is known -/
theorem Rel.new (r : Rel K p st B M F env σ H) {q : Addr} {o : HO} (h : H q = none) : Rel K p st (upd B q o) M F env σ (upd H q o) where
  bs := r.bs.new h
  m := r.m.right (r.m.free h)
  md := fun a u e => by
    obtain ⟨h1, h2, h3⟩ := r.md a u e
    refine ⟨?_, h2, h3⟩
    rw [upd_ne (ne_of_none e (r.m.free h))]
    exact h1
  en := r.en.mono (Ex.new (r.bs.b.free h))
/-- the two own parts as one: what a callee leaves alone -/
def uni (M F : Hp) : Hp := fun a => match M a with
  | some o => some o
  | none => F a
theorem uni_l {M F : Hp} {a : Addr} {o : HO} (h : M a = some o) : uni M F a = some o := by unfold uni; rw [h]
theorem uni_r {M F : Hp} {a : Addr} (h : M a = none) : uni M F a = F a := by unfold uni; rw [h]
theorem uni_cases {M F : Hp} {a : Addr} {o : HO} (h : uni M F a = some o) : M a = some o ∨ (M a = none ∧ F a = some o) := by
  cases e : M a with
  | some u => rw [uni_l e] at h; exact .inl h
  | none => rw [uni_r e] at h; exact .inr ⟨rfl, h⟩
theorem Rel.call (r : Rel K p st B M F env σ H) : Bs p st B (uni M F) H where
  b := r.bs.b
  f := fun a o h => by
    rcases uni_cases h with h | ⟨_, h⟩
    · exact r.m a o h
    · exact r.bs.f a o h
  d := fun a o h => by
    rcases uni_cases h with h | ⟨_, h⟩
    · exact (r.md a o h).1
    · exact r.bs.d a o h
  pf := by
    cases e : uni M F p with
    | none => rfl
    | some o =>
      rcases uni_cases e with h | ⟨_, h⟩
      · exact absurd rfl (r.md p o h).2.2
      · rw [r.bs.pf] at h
        cases h
  pb := r.bs.pb
  pl := r.bs.pl
theorem Rel.back {st' : Pl} {B' H' : Hp} (r : Rel K p st B M F env σ H) (e : Ex B B') (w : Bs p st' B' (uni M F) H') : Rel K p st' B' M F env σ H' where
  bs := ⟨w.b, fun a o h => w.f a o (by
      cases e1 : M a with
      | none => rw [uni_r e1]; exact h
      | some u =>
        have := (r.md a u e1).2.1
        rw [this] at h
        cases h), fun a o h => w.d a o (by
      cases e1 : M a with
      | none => rw [uni_r e1]; exact h
      | some u =>
        have := (r.md a u e1).2.1
        rw [this] at h
        cases h), r.bs.pf, w.pb, w.pl⟩
  m := fun a o h => w.f a o (uni_l h)
  md := fun a o h => ⟨w.d a o (uni_l h), (r.md a o h).2⟩
  en := r.en.mono e
end
end Ip

set_option Elab.async false
set_option linter.all false
set_option maxRecDepth 100000
set_option maxHeartbeats 4000000
/-! The program's own text in short (IE, IS), and what it comes to over data. -/
namespace Ip
open PySem L2
inductive Cst where
  | non | bl (b : Bool) | int (i : Int) | str (s : Str)
inductive Bop where
  | add | sub | mul | fdv | mod | pow
inductive Bi where
  | len | int | str | tuple | list
inductive Ty where
  | int | bool | str | list | tuple
inductive Cop where
  | eq | ne | lt | le | gt | ge | isin | notin | isN | noN
mutual
inductive IE where
  | var (i : Nat)
  | cst (c : Cst)
  | call (f : Str) (as : IEs)
  | bi (f : Bi) (as : IEs)
  | bin (o : Bop) (a b : IE)
  | cmp (o : Cop) (a b : IE)
  | and (a b : IE)
  | or (a b : IE)
  | not (a : IE)
  | neg (a : IE)
  | tup (es : IEs)
  | lst (es : IEs)
  | ix (a b : IE)
  | sl (a : IE) (lo hi : IO)
  | ifx (c a b : IE)
  | lc (j : Nat) (it : IT) (cs : IEs) (e : IE)
  | olen (i : Nat)
  | pix (i k : Nat)
  | pcel (i : Nat)
  | plen (i : Nat)
  | isi (t : Ty) (e : IE)
  | lent (is : List Nat) (e : IE)
inductive IEs where
  | nil
  | cons (e : IE) (es : IEs)
  | pool (i : Nat) (es : IEs)
inductive IO where
  | non
  | some (e : IE)
inductive IT where
  | seq (e : IE)
  | rng1 (e : IE)
  | rng2 (a b : IE)
end
inductive Sg where
  | one (j : Nat)
  | many (js : List Nat)
mutual
inductive IS where
  | set (i : Nat) (e : IE)
  | own (i : Nat) (e : IE)
  | unp (js : List Nat) (e : IE)
  | app (i : Nat) (e : IE)
  | ext (i : Nat) (e : IE)
  | pput (i k : Nat) (e : IE)
  | iff (c : IE) (a b : ISs)
  | forr (j : Sg) (it : IT) (b : ISs)
  | ret (e : IE)
  | retN
  | drop (e : IE)
  | brk
  | cnt
  | frz (is : List Nat) (s : IS)
inductive ISs where
  | nil
  | cons (s : IS) (r : ISs)
end
/-! ### over data -/
abbrev Cl := Str → List (Option D) → Pl → Option (D × Pl)
def Cst.d : Cst → D
  | .non => .none
  | .bl b => .bool b
  | .int i => .int i
  | .str s => .str s
def most : Nat := 100000
def binD : Bop → D → D → Option D
  | .add, .int i, .int j => some (.int (i + j))
  | .add, .str s, .str t => if s.length + t.length ≤ most then some (.str (s ++ t)) else none
  | .add, .list xs, .list ys => if xs.length + ys.length ≤ most then some (.list (xs ++ ys)) else none
  | .add, .tuple xs, .tuple ys => if xs.length + ys.length ≤ most then some (.tuple (xs ++ ys)) else none
  | .sub, .int i, .int j => some (.int (i - j))
  | .mul, .int i, .int j => if i.natAbs < 2 ^ 64 ∨ j.natAbs < 2 ^ 64 then some (.int (i * j)) else none
  | .fdv, .int i, .int j => if 0 < j ∧ j < 1073741824 then some (.int (i / j)) else none
  | .mod, .int i, .int j => if 0 < j then some (.int (i % j)) else none
  | .pow, .int i, .int j => if 0 ≤ j ∧ j ≤ 64 ∧ i.natAbs < 2 ^ 64 then some (.int (i ^ j.toNat)) else none
  | _, _, _ => none
def flatD : D → Bool
  | .none => true
  | .bool _ => true
  | .int _ => true
  | .str _ => true
  | _ => false
def memD (x : D) (ys : List D) : Bool := ys.any fun y => PyData.eqv y x
def inD (x : D) : D → Option Bool
  | .list ys => if flatD x = true ∧ ys.all flatD = true then some (memD x ys) else none
  | .tuple ys => if flatD x = true ∧ ys.all flatD = true then some (memD x ys) else none
  | .str t => match x with
    | .str s => if s.length = 1 then some (decide (s.cps.getD 0 0 ∈ t.cps.toList)) else none
    | _ => none
  | _ => none
def eqD : D → D → Option Bool
  | .str s, .str t => some (decide (s = t))
  | .int i, .int j => some (decide (i = j))
  | .bool a, .bool b => some (decide (a = b))
  | .int _, .str _ => some false
  | .str _, .int _ => some false
  | x, y => if SeqAt.shaped x = true ∧ SeqAt.shaped y = true then some (PyData.eqv x y) else none
def cmpD : Cop → D → D → Option Bool
  | .eq, x, y => eqD x y
  | .ne, x, y => (eqD x y).map (!·)
  | .lt, .int i, .int j => some (decide (i < j))
  | .le, .int i, .int j => some (decide (i ≤ j))
  | .gt, .int i, .int j => some (decide (j < i))
  | .ge, .int i, .int j => some (decide (j ≤ i))
  | .isin, x, y => inD x y
  | .notin, x, y => (inD x y).map (!·)
  | .isN, .none, .none => some true
  | .isN, _, .none => some false
  | .noN, .none, .none => some false
  | .noN, _, .none => some true
  | _, _, _ => none
def ixD : D → D → Option D
  | .list xs, .int i => atI xs i
  | .tuple xs, .int i => atI xs i
  | .str s, .int i => if s.length ≤ most then (atI s.cps.toList i).map fun c => .str ⟨#[c]⟩ else none
  | _, _ => none
def cutD (xs : List D) (lo hi : Option Int) : List D := (xs.drop (HT.sIx xs.length 0 lo)).take (HT.sIx xs.length xs.length hi - HT.sIx xs.length 0 lo)
def slD : D → Option Int → Option Int → Option D
  | .list xs, lo, hi => some (.list (cutD xs lo hi))
  | .tuple xs, lo, hi => some (.tuple (cutD xs lo hi))
  | .str s, lo, hi => if s.length ≤ most then some (.str (cutS s lo hi)) else none
  | _, _, _ => none
/-- the built-ins that are served -/
def biD : Bi → List D → Option D
  | .len, [.list xs] => some (.int xs.length)
  | .len, [.tuple xs] => some (.int xs.length)
  | .len, [.str s] => if s.length ≤ most then some (.int s.length) else none
  | .int, [.int i] => some (.int i)
  | .int, [.bool b] => some (.int (if b then 1 else 0))
  | .str, [.int i] => if i.natAbs.log2 < 1920 then some (.str (toString i)) else none
  | .tuple, [.list xs] => some (.tuple xs)
  | .tuple, [.tuple xs] => some (.tuple xs)
  | .list, [.list xs] => some (.list xs)
  | .list, [.tuple xs] => some (.list xs)
  | _, _ => none
def itD : D → Option (List D)
  | .list xs => some xs
  | .tuple xs => some xs
  | _ => none
def rngD (lo hi : Int) : Option (List D) := if -(2 ^ 62) ≤ lo ∧ lo < 2 ^ 62 ∧ -(2 ^ 62) ≤ hi ∧ hi < 2 ^ 62 then some ((List.range (hi - lo).toNat).map fun (k : Nat) => PyData.int (lo + (k : Int))) else none
def lcG (f : D → Pl → Option (Option D × Pl)) : List D → Pl → Option (List D × Pl)
  | [], st => some ([], st)
  | d :: ds, st => match f d st with
    | some (none, st1) => lcG f ds st1
    | some (some e, st1) => (match lcG f ds st1 with
      | some (es, st2) => some (e :: es, st2)
      | none => none)
    | none => none
def Pl.at_ (s : Pl) : Nat → Option Int
  | 1 => some s.i
  | 2 => some s.r
  | 3 => some s.c
  | 4 => some s.l
  | _ => none
def Pl.put (s : Pl) (n : Int) : Nat → Option Pl
  | 1 => some { s with i := n }
  | 2 => some { s with r := n }
  | 3 => some { s with c := n }
  | 4 => some { s with l := n }
  | _ => none
def isiD : Ty → D → Bool
  | .int, .int _ => true
  | .int, .bool _ => true
  | .bool, .bool _ => true
  | .str, .str _ => true
  | .list, .list _ => true
  | .tuple, .tuple _ => true
  | _, _ => false
def frzS : Sl → Sl
  | .ow ds => .im (.list ds)
  | s => s
def frzE (env : List Sl) : List Nat → List Sl
  | [] => env
  | i :: is => frzE (env.modify i frzS) is
mutual
def ev (cl : Cl) : IE → List Sl → Pl → Option (D × Pl)
  | .var i, env, st => (match env[i]? with
    | some (.im d) => some (d, st)
    | _ => none)
  | .cst c, _, st => some (c.d, st)
  | .call f as, env, st => (match ag cl as env st with
    | some (ds, st1) => cl f ds st1
    | none => none)
  | .bi f as, env, st => (match ea cl as env st with
    | some (ds, st1) => (biD f ds).map fun d => (d, st1)
    | none => none)
  | .bin o a b, env, st => (match ev cl a env st with
    | some (x, st1) => (match ev cl b env st1 with
      | some (y, st2) => (binD o x y).map fun d => (d, st2)
      | none => none)
    | none => none)
  | .cmp o a b, env, st => (match ev cl a env st with
    | some (x, st1) => (match ev cl b env st1 with
      | some (y, st2) => (cmpD o x y).map fun d => (.bool d, st2)
      | none => none)
    | none => none)
  | .and a b, env, st => (match ev cl a env st with
    | some (.bool true, st1) => ev cl b env st1
    | some (.bool false, st1) => some (.bool false, st1)
    | _ => none)
  | .or a b, env, st => (match ev cl a env st with
    | some (.bool true, st1) => some (.bool true, st1)
    | some (.bool false, st1) => ev cl b env st1
    | _ => none)
  | .not a, env, st => (match ev cl a env st with
    | some (.bool b, st1) => some (.bool (!b), st1)
    | _ => none)
  | .neg a, env, st => (match ev cl a env st with
    | some (.int i, st1) => some (.int (-i), st1)
    | _ => none)
  | .tup es, env, st => (match ea cl es env st with
    | some (ds, st1) => if ds.length ≤ most then some (.tuple ds, st1) else none
    | none => none)
  | .lst es, env, st => (match ea cl es env st with
    | some (ds, st1) => if ds.length ≤ most then some (.list ds, st1) else none
    | none => none)
  | .ix a b, env, st => (match ev cl a env st with
    | some (x, st1) => (match ev cl b env st1 with
      | some (y, st2) => (ixD x y).map fun d => (d, st2)
      | none => none)
    | none => none)
  | .sl a lo hi, env, st => (match ev cl a env st with
    | some (x, st1) => (match eo cl lo env st1 with
      | some (l, st2) => (match eo cl hi env st2 with
        | some (h, st3) => (slD x l h).map fun d => (d, st3)
        | none => none)
      | none => none)
    | none => none)
  | .ifx c a b, env, st => (match ev cl c env st with
    | some (.bool true, st1) => ev cl a env st1
    | some (.bool false, st1) => ev cl b env st1
    | _ => none)
  | .lc j it cs e, env, st => (match ei cl it env st with
    | some (ds, st1) => if ds.length ≤ most then (match lcG (fun d st => match et cl cs (env.set j (.im d)) st with
        | some (true, st2) => (match ev cl e (env.set j (.im d)) st2 with
          | some (y, st3) => some (some y, st3)
          | none => none)
        | some (false, st2) => some (none, st2)
        | none => none) ds st1 with
      | some (ys, st4) => some (.list ys, st4)
      | none => none) else none
    | none => none)
  | .olen i, env, st => (match env[i]? with
    | some (.ow ds) => some (.int ds.length, st)
    | some (.im d) => (biD .len [d]).map fun z => (z, st)
    | _ => none)
  | .pix i k, env, st => (match env[i]? with
    | some .pl => (st.at_ k).map fun n => (.int n, st)
    | _ => none)
  | .pcel i, env, st => (match env[i]? with
    | some .pl => (atI st.ns st.i).map fun n => (.int n, st)
    | _ => none)
  | .isi t e, env, st => (match ev cl e env st with
    | some (x, st1) => some (.bool (isiD t x), st1)
    | none => none)
  | .lent is e, env, st => (match ev cl e (frzE env is) st with
    | some (x, st1) => if flatD x = true then some (x, st1) else none
    | none => none)
  | .plen i, env, st => (match env[i]? with
    | some .pl => some (.int st.ns.length, st)
    | _ => none)
def ea (cl : Cl) : IEs → List Sl → Pl → Option (List D × Pl)
  | .nil, _, st => some ([], st)
  | .cons e es, env, st => (match ev cl e env st with
    | some (x, st1) => (match ea cl es env st1 with
      | some (xs, st2) => some (x :: xs, st2)
      | none => none)
    | none => none)
  | .pool _ _, _, _ => none
def ag (cl : Cl) : IEs → List Sl → Pl → Option (List (Option D) × Pl)
  | .nil, _, st => some ([], st)
  | .cons e es, env, st => (match ev cl e env st with
    | some (x, st1) => (match ag cl es env st1 with
      | some (xs, st2) => some (some x :: xs, st2)
      | none => none)
    | none => none)
  | .pool i es, env, st => (match env[i]? with
    | some .pl => (match ag cl es env st with
      | some (xs, st2) => some (none :: xs, st2)
      | none => none)
    | _ => none)
/-- tests in a row, all to be True -/
def et (cl : Cl) : IEs → List Sl → Pl → Option (Bool × Pl)
  | .nil, _, st => some (true, st)
  | .cons e es, env, st => (match ev cl e env st with
    | some (.bool true, st1) => et cl es env st1
    | some (.bool false, st1) => some (false, st1)
    | _ => none)
  | .pool _ _, _, _ => none
def eo (cl : Cl) : IO → List Sl → Pl → Option (Option Int × Pl)
  | .non, _, st => some (none, st)
  | .some e, env, st => (match ev cl e env st with
    | some (.int i, st1) => some (some i, st1)
    | _ => none)
def ei (cl : Cl) : IT → List Sl → Pl → Option (List D × Pl)
  | .seq e, env, st => (match ev cl e env st with
    | some (x, st1) => (itD x).map fun xs => (xs, st1)
    | none => none)
  | .rng1 e, env, st => (match ev cl e env st with
    | some (.int n, st1) => (rngD 0 n).map fun xs => (xs, st1)
    | _ => none)
  | .rng2 a b, env, st => (match ev cl a env st with
    | some (.int lo, st1) => (match ev cl b env st1 with
      | some (.int hi, st2) => (rngD lo hi).map fun xs => (xs, st2)
      | _ => none)
    | _ => none)
end
inductive Out where
  | nx (env : List Sl) (st : Pl)
  | rt (d : D) (st : Pl)
  | bk (env : List Sl) (st : Pl)
  | ct (env : List Sl) (st : Pl)
def setMany : List Nat → List D → List Sl → Option (List Sl)
  | [], [], env => some env
  | j :: js, d :: ds, env => setMany js ds (env.set j (.im d))
  | _, _, _ => none
def sgD (j : Sg) (d : D) (env : List Sl) : Option (List Sl) := match j with
  | .one j => some (env.set j (.im d))
  | .many js => (match itD d with
    | some ds => setMany js ds env
    | none => none)
def forG (f : D → List Sl → Pl → Option Out) : List D → List Sl → Pl → Option Out
  | [], env, st => some (.nx env st)
  | d :: ds, env, st => match f d env st with
    | some (.nx e s) => forG f ds e s
    | some (.ct e s) => forG f ds e s
    | some (.bk e s) => some (.nx e s)
    | some (.rt v s) => some (.rt v s)
    | none => none
mutual
def evS (cl : Cl) : IS → List Sl → Pl → Option Out
  | .set i e, env, st => (match ev cl e env st with
    | some (x, st1) => some (.nx (env.set i (.im x)) st1)
    | none => none)
  | .own i e, env, st => (match ev cl e env st with
    | some (.list xs, st1) => some (.nx (env.set i (.ow xs)) st1)
    | _ => none)
  | .unp js e, env, st => (match ev cl e env st with
    | some (x, st1) => (sgD (.many js) x env).map fun env1 => .nx env1 st1
    | none => none)
  | .app i e, env, st => (match ev cl e env st with
    | some (x, st1) => (match env[i]? with
      | some (.ow ds) => if ds.length < most then some (.nx (env.set i (.ow (ds ++ [x]))) st1) else none
      | _ => none)
    | none => none)
  | .ext i e, env, st => (match ev cl e env st with
    | some (.list xs, st1) => (match env[i]? with
        | some (.ow ds) => if ds.length + xs.length ≤ most then some (.nx (env.set i (.ow (ds ++ xs))) st1) else none
        | _ => none)
    | _ => none)
  | .pput i k e, env, st => (match ev cl e env st with
    | some (.int n, st1) => (match env[i]? with
      | some .pl => (st1.put n k).map fun st2 => .nx env st2
      | _ => none)
    | _ => none)
  | .iff c a b, env, st => (match ev cl c env st with
    | some (.bool true, st1) => evSs cl a env st1
    | some (.bool false, st1) => evSs cl b env st1
    | _ => none)
  | .forr j it b, env, st => (match ei cl it env st with
    | some (ds, st1) => forG (fun d env st => match sgD j d env with
        | some env1 => evSs cl b env1 st
        | none => none) ds env st1
    | none => none)
  | .ret e, env, st => (match ev cl e env st with
    | some (x, st1) => some (.rt x st1)
    | none => none)
  | .retN, _, st => some (.rt .none st)
  | .drop e, env, st => (match ev cl e env st with
    | some (_, st1) => some (.nx env st1)
    | none => none)
  | .brk, env, st => some (.bk env st)
  | .cnt, env, st => some (.ct env st)
  | .frz is s, env, st => evS cl s (frzE env is) st
def evSs (cl : Cl) : ISs → List Sl → Pl → Option Out
  | .nil, env, st => some (.nx env st)
  | .cons s r, env, st => (match evS cl s env st with
    | some (.nx env1 st1) => evSs cl r env1 st1
    | some o => some o
    | none => none)
end
def slOf : Option D → Sl
  | some d => .im d
  | none => .pl
/-- a def: how many names, its body -/
structure IF where
  n : Nat
  body : ISs
def runF (cl : Cl) (f : IF) (as : List (Option D)) (st : Pl) : Option (D × Pl) :=
  match evSs cl f.body (as.map slOf ++ List.replicate (f.n - as.length) .no) st with
  | some (.rt d st1) => some (d, st1)
  | some (.nx _ st1) => some (.none, st1)
  | _ => none
end Ip

set_option Elab.async false
set_option linter.all false
set_option maxRecDepth 100000
set_option maxHeartbeats 4000000
/-! Readings over data, expression by expression. -/
namespace Ip
open PySem L2
/-! ### what is known where an expression stands -/
structure Gam where
  N : List Str
  sc : Scope
  K : PySem.W.Frag
  cl : Cl
  /-- the own defs that may be called here; the built-ins that nothing covers -/
  fs : List Str
  bs : List Str
inductive ArA (K : PySem.W.Frag) (p : Pa) (B : Hp) : List V → List (Option D) → Prop
  | nil : ArA K p B [] []
  | cons {v : V} {vs : List V} {d : D} {ds : List (Option D)} : Rp K B v d → ArA K p B vs ds → ArA K p B (v :: vs) (some d :: ds)
  | pool {vs : List V} {ds : List (Option D)} : ArA K p B vs ds → ArA K p B (.ref p :: vs) (none :: ds)
/-- a def over data -/
def spF (K : PySem.W.Frag) (cl : Cl) (f : Str) : Sp := fun vs H Q _ => ∃ p st B F as d st', Bs p st B F H ∧ ArA K p B vs as ∧ cl f as st = some (d, st') ∧
  ∀ v B' H', Ex B B' → Bs p st' B' F H' → Rp K B' v d → Q v H'
structure Okx (Γ : Gam) (X : Cx) : Prop where
  K : X.K = Γ.K
  N : X.N = Γ.N
  nd : Γ.N.Nodup
  sc : X.env.scope = Γ.sc
  calm : X.calm = true
  units : X.A.units + 100 < cLine
  fn : ∀ f ∈ Γ.fs, ∃ fa fd ps k, FnOk X.prog X.w X.K X.mg X.base (L2.CX X.prog X.w) k fa fd ps (spF Γ.K Γ.cl f) ∧ X.mg f = some (.ref fa) ∧ PySem.W.keepIn X.K (.ref fa) = true ∧ Binds X.K fd ps [] ∧ Room k X.A
  bl : ∀ f ∈ Γ.bs, X.mg f = none
def GlS (sc : Scope) (x : Str) : Prop := sc.names.lookup x = some .globalImplicit
theorem Okx.gl {Γ : Gam} {X : Cx} (o : Okx Γ X) {x : Str} (h : GlS Γ.sc x) : Gl X x := by
  show X.env.scope.names.lookup x = _
  rw [o.sc]
  exact h
def Gam.blk (Γ : Gam) (scope : Scope) : Gam := { Γ with sc := relS scope Γ.sc }
theorem Okx.blk {Γ : Gam} {X : Cx} (o : Okx Γ X) (scope : Scope) (s : Shared) (H : Hp) (C : Addr) (cl : List (Str × Addr)) (fp : List Addr) : Okx (Γ.blk scope) (X.blk s H scope (compEnvC scope cl C X.env) fp) where
  K := o.K
  N := o.N
  nd := o.nd
  sc := by
    show relabel scope X.env = relS scope Γ.sc
    unfold relabel relS
    rw [← o.sc]
    rfl
  calm := o.calm
  units := o.units
  fn := o.fn
  bl := o.bl
/-! ### readings -/
def Tx (K : PySem.W.Frag) (cl : Cl) (e : IE) : TE := fun σ H Q => ∃ p st B M F env d st', Rel K p st B M F env σ H ∧ ev cl e env st = some (d, st') ∧
  ∀ v B' H', Ex B B' → Rel K p st' B' M F env σ H' → Rp K B' v d → Q v H'
def Tt (K : PySem.W.Frag) (cl : Cl) (e : IE) : TT := fun σ H Q => ∃ p st B M F env b st', Rel K p st B M F env σ H ∧ ev cl e env st = some (.bool b, st') ∧
  ∀ B' H', Ex B B' → Rel K p st' B' M F env σ H' → Q b H'
def Ts (K : PySem.W.Frag) (cl : Cl) (es : IEs) : TT := fun σ H Q => ∃ p st B M F env b st', Rel K p st B M F env σ H ∧ et cl es env st = some (b, st') ∧
  ∀ B' H', Ex B B' → Rel K p st' B' M F env σ H' → Q b H'
def Ta (K : PySem.W.Frag) (cl : Cl) (es : IEs) : TA := fun σ H Q => ∃ p st B M F env ds st', Rel K p st B M F env σ H ∧ ea cl es env st = some (ds, st') ∧
  ∀ vs B' H', Ex B B' → Rel K p st' B' M F env σ H' → RpA K B' vs ds → Q vs H'
def Tg (K : PySem.W.Frag) (cl : Cl) (es : IEs) : TA := fun σ H Q => ∃ p st B M F env ds st', Rel K p st B M F env σ H ∧ ag cl es env st = some (ds, st') ∧
  ∀ vs B' H', Ex B B' → Rel K p st' B' M F env σ H' → ArA K p B' vs ds → Q vs H'
/-- a new list -/
def Tf (K : PySem.W.Frag) (cl : Cl) (e : IE) : TE := fun σ H Q => ∃ p st B M F env ds st', Rel K p st B M F env σ H ∧ ev cl e env st = some (.list ds, st') ∧
  ∀ a xs B' H', Ex B B' → B' a = none → M a = none → F a = none → a ≠ p → H' a = some (.lst xs) → RpA K B' xs ds → Rel K p st' B' M F env σ H' → Q (.ref a) H'
def To (K : PySem.W.Frag) (cl : Cl) (o : IO) : TO := fun σ H Q => ∃ p st B M F env l st', Rel K p st B M F env σ H ∧ eo cl o env st = some (l, st') ∧
  ∀ B' H', Ex B B' → Rel K p st' B' M F env σ H' → Q l H'
section
variable {X : Cx} {e : Expr} {te te' : TE} {tt tt' : TT}
theorem PE_weak (h : PE X e te) (w : ∀ σ H Q, te' σ H Q → te σ H Q) : PE X e te' := ⟨fun pins s σ H Q I q => h.run pins s σ H Q I (w σ H Q q)⟩
theorem PT_weak (h : PT X e tt) (w : ∀ σ H Q, tt' σ H Q → tt σ H Q) : PT X e tt' := ⟨fun pins s σ H Q I q => h.run pins s σ H Q I (w σ H Q q)⟩
theorem PW_weak (h : PW X e tt) (w : ∀ σ H Q, tt' σ H Q → tt σ H Q) : PW X e tt' := ⟨fun wh pins s σ H Q I q => h.run wh pins s σ H Q I (w σ H Q q)⟩
theorem PA_weak {es : List Expr} {ta ta' : TA} (h : PA X es ta) (w : ∀ σ H Q, ta' σ H Q → ta σ H Q) : PA X es ta' := ⟨fun pos pins s σ H Q I q => h.run pos pins s σ H Q I (w σ H Q q)⟩
theorem PO_weak {o : Option Expr} {to to' : TO} (h : PO X o to) (w : ∀ σ H Q, to' σ H Q → to σ H Q) : PO X o to' := ⟨fun pins s σ H Q I q => h.run pins s σ H Q I (w σ H Q q)⟩
theorem PS_weak {st : Stmt} {t t' : TS} (h : PS X st t) (w : ∀ D σ H, t' D σ H → t D σ H) : PS X st t' := ⟨fun pins s σ H D I q => h.run pins s σ H D I (w D σ H q)⟩
theorem PSs_weak {st : List Stmt} {t t' : TS} (h : PSs X st t) (w : ∀ D σ H, t' D σ H → t D σ H) : PSs X st t' := ⟨fun pins s σ H D I q => h.run pins s σ H D I (w D σ H q)⟩
theorem PTs_weak {es : List Expr} (h : PTs X es tt) (w : ∀ σ H Q, tt' σ H Q → tt σ H Q) : PTs X es tt' := ⟨fun pins s σ H Q I q => h.run pins s σ H Q I (w σ H Q q)⟩
end
/-! ### an expression, a test, arguments: what is shown of each -/
def SE (Γ : Gam) (e : Expr) (i : IE) : Prop := ∀ X, Okx Γ X → PE X e (Tx Γ.K Γ.cl i)
def SF (Γ : Gam) (e : Expr) (i : IE) : Prop := ∀ X, Okx Γ X → PE X e (Tf Γ.K Γ.cl i)
def ST (Γ : Gam) (e : Expr) (i : IE) : Prop := ∀ X, Okx Γ X → PT X e (Tt Γ.K Γ.cl i)
def SW (Γ : Gam) (e : Expr) (i : IE) : Prop := ∀ X, Okx Γ X → PW X e (Tt Γ.K Γ.cl i)
def SA (Γ : Gam) (es : List Expr) (i : IEs) : Prop := ∀ X, Okx Γ X → PA X es (Ta Γ.K Γ.cl i)
def SG (Γ : Gam) (es : List Expr) (i : IEs) : Prop := ∀ X, Okx Γ X → PA X es (Tg Γ.K Γ.cl i)
def SO (Γ : Gam) (o : Option Expr) (i : IO) : Prop := ∀ X, Okx Γ X → PO X o (To Γ.K Γ.cl i)
def STs (Γ : Gam) (es : List Expr) (i : IEs) : Prop := ∀ X, Okx Γ X → PTs X es (Ts Γ.K Γ.cl i)
section
variable {K : PySem.W.Frag} {p : Pa} {st : Pl} {B M F : Hp} {env : List Sl} {σ : L2.St} {H : Hp}
/-- an own, new object becomes known -/
theorem Rel.know (r : Rel K p st B M F env σ H) {a : Addr} {o : HO} (h : H a = some o) (hb : B a = none) (hm : M a = none) (hf : F a = none) (hp : a ≠ p) : Rel K p st (upd B a o) M F env σ H where
  bs := {
    b := fun c u e => by
      by_cases hc : c = a
      · subst hc
        rw [upd_same] at e
        rw [← e]
        exact h
      · rw [upd_ne hc] at e
        exact r.bs.b c u e
    f := r.bs.f
    d := fun c u e => by
      rw [upd_ne (ne_of_none e hf)]
      exact r.bs.d c u e
    pf := r.bs.pf
    pb := by
      rw [upd_ne (fun e => hp e.symm)]
      exact r.bs.pb
    pl := by
      obtain ⟨h1, h2⟩ := r.bs.pl
      exact ⟨h1, Ex.new hb _ _ h2⟩ }
  m := r.m
  md := fun c u e => by
    obtain ⟨h1, h2, h3⟩ := r.md c u e
    refine ⟨?_, h2, h3⟩
    rw [upd_ne (ne_of_none e hm)]
    exact h1
  en := r.en.mono (Ex.new hb)
end
section
variable {Γ : Gam} {e a b c : Expr} {ia ib ic i : IE} {pos : Pos}
/-- a new list, as a value -/
theorem SF.se (h : SF Γ e i) (hl : ∀ cl env st d st', ev cl i env st = some (d, st') → ∃ ds, d = .list ds) : SE Γ e i := fun X o => PE_weak (h X o) fun σ H Q q => by
  obtain ⟨p, st, B, M, F, env, d, st', r, he, k⟩ := q
  obtain ⟨ds, rfl⟩ := hl _ _ _ _ _ he
  refine ⟨p, st, B, M, F, env, ds, st', r, he, fun a xs B' H' e1 hb hm hf hp ha hr r' => ?_⟩
  exact k (.ref a) _ H' (e1.trans (Ex.new hb)) (r'.know ha hb hm hf hp) (.lst upd_same (hr.mono (Ex.new hb)))
theorem se_var (n : Nat) {x : Str} (hN : Γ.N[n]? = some x := by rfl) (hv : Vis Γ.sc x := by first | exact Or.inl rfl | exact Or.inr (Or.inl rfl) | exact Or.inr (Or.inr rfl)) (hd : (x == ("__debug__" : Str)) = false := by decide) (hcd : (x == ("__classdict__" : Str)) = false := by decide) :
    SE Γ (.Name x pos) (.var n) := fun X o => PE_weak (pe_var (i := n) (by rw [o.N]; exact hN) (by rw [o.sc]; exact hv) hd hcd) fun σ H Q q => by
  obtain ⟨p, st, B, M, F, env, d, st', r, he, k⟩ := q
  unfold ev at he
  split at he
  · rename_i d' e1
    cases he
    obtain ⟨ov, h1, h2⟩ := r.en.at_ n _ e1
    cases ov with
    | none => exact h2.elim
    | some v => exact ⟨v, h1, k v B H (Ex.refl B) r h2⟩
  · cases he
theorem se_cst {K : PySem.W.Frag} (c : Cst) {v : V} (h : ∀ X : Cx, PE X e (tC v)) (hv : ∀ K B, Rp K B v c.d) : SE Γ e (.cst c) := fun X o => PE_weak (h X) fun σ H Q q => by
  obtain ⟨p, st, B, M, F, env, d, st', r, he, k⟩ := q
  unfold ev at he
  cases he
  exact k v B H (Ex.refl B) r (hv _ B)
theorem se_int {n : Int} {j} : SE Γ (.Constant (.int n) j pos) (.cst (.int n)) := se_cst (K := Γ.K) (.int n) (fun _ => pe_int) fun _ _ => .int n
theorem se_str {x : Str} {j} : SE Γ (.Constant (.str x) j pos) (.cst (.str x)) := se_cst (K := Γ.K) (.str x) (fun _ => pe_str) fun _ _ => .str x
theorem se_bl {x : Bool} {j} : SE Γ (.Constant (.bool x) j pos) (.cst (.bl x)) := se_cst (K := Γ.K) (.bl x) (fun _ => pe_bl) fun _ _ => .bl x
theorem se_non {j} : SE Γ (.Constant .none j pos) (.cst .non) := se_cst (K := Γ.K) .non (fun _ => pe_non) fun _ _ => .non
/-- two operands -/
theorem tx_bin {K : PySem.W.Frag} {cl : Cl} {i : IE} {r : R2} {σ : L2.St} {H : Hp} {Q : VK} {f : D → D → Option D} (hi : ∀ env st, ev cl i env st = (match ev cl ia env st with
    | some (x, st1) => (match ev cl ib env st1 with
      | some (y, st2) => (f x y).map fun d => (d, st2)
      | none => none)
    | none => none))
    (hr : ∀ {p st B M F env x y z v u H}, Rel K p st B M F env σ H → Rp K B v x → Rp K B u y → f x y = some z → ∀ Q : VK, (∀ w B' H', Ex B B' → Rel K p st B' M F env σ H' → Rp K B' w z → Q w H') → r v u H Q)
    (q : Tx K cl i σ H Q) : tOp r (Tx K cl ia) (Tx K cl ib) σ H Q := by
  obtain ⟨p, st, B, M, F, env, d, st', rl, he, k⟩ := q
  rw [hi] at he
  cases e1 : ev cl ia env st with
  | none =>
    rw [e1] at he
    cases he
  | some xs =>
    obtain ⟨x, st1⟩ := xs
    rw [e1] at he
    cases e2 : ev cl ib env st1 with
    | none =>
      simp only [e2] at he
      cases he
    | some ys =>
      obtain ⟨y, st2⟩ := ys
      simp only [e2] at he
      cases e3 : f x y with
      | none =>
        rw [e3] at he
        cases he
      | some z =>
        rw [e3] at he
        cases he
        exact ⟨p, st, B, M, F, env, x, st1, rl, e1, fun v B1 H1 x1 r1 p1 => ⟨p, st1, B1, M, F, env, y, _, r1, e2, fun u B2 H2 x2 r2 p2 =>
          hr r2 (p1.mono x2) p2 e3 Q fun w B' H' x3 r3 p3 => k w B' H' ((x1.trans x2).trans x3) r3 p3⟩⟩
end
end Ip

set_option Elab.async false
set_option linter.all false
set_option maxRecDepth 100000
set_option maxHeartbeats 4000000
namespace Ip
open PySem L2
theorem most_line {n : Nat} (h : n ≤ most) : n ≤ sizeLine := Nat.le_trans h (by decide)
theorem most_lt {n : Nat} (h : n < most) : n < sizeLine := Nat.lt_of_lt_of_le h (by decide)
theorem ite_some {c : Prop} [Decidable c] {α : Type} {x z : α} (h : (if c then some x else none) = some z) : c ∧ x = z := by
  by_cases hc : c
  · rw [if_pos hc] at h
    exact ⟨hc, Option.some.inj h⟩
  · rw [if_neg hc] at h
    cases h
section
variable {Γ : Gam} {e a b c : Expr} {ia ib ic i : IE} {pos : Pos}
/-! ### + - * // % ** -/
abbrev rAddD (K : PySem.W.Frag) : R2 := fun x y H Q => (rI0 (fun i j => .int (i + j)) x y H Q ∨ (∃ i j, x = .str i ∧ y = .str j ∧ i.length + j.length ≤ sizeLine ∧ Q (.str (i ++ j)) H)) ∨ (rCat x y H Q ∨ rCatA K x y H Q)
theorem bin_add (ha : SE Γ a ia) (hb : SE Γ b ib) : SE Γ (.BinOp a .Add b pos) (.bin .add ia ib) := fun X o => PE_weak (pe_op (OpR.or (OpR.or op_add op_add_str) (OpR.or op_cat op_catA)) (ha X o) (hb X o)) fun σ H Q q => by
  refine tx_bin (f := binD .add) (fun env st => rfl) ?_ q
  intro p st B M F env x y z v u H r px py h Q k
  rw [o.K]
  cases px with
  | int i =>
    cases py with
    | int j =>
      cases h
      exact .inl (.inl ⟨i, j, rfl, rfl, k _ B H (Ex.refl B) r (.int _)⟩)
    | _ => cases h
  | str s =>
    cases py with
    | str t =>
      obtain ⟨hl, rfl⟩ := ite_some (show (if s.length + t.length ≤ most then some (PyData.str (s ++ t)) else none) = some z from h)
      exact .inl (.inr ⟨s, t, rfl, rfl, most_line hl, k _ B H (Ex.refl B) r (.str _)⟩)
    | _ => cases h
  | @lst _ _ xs hx rx =>
    cases py with
    | @lst _ _ ys hy ry =>
      obtain ⟨hl, rfl⟩ := ite_some (show (if xs.length + ys.length ≤ most then some (PyData.list (xs ++ ys)) else none) = some z from h)
      · refine .inr (.inl ⟨_, _, _, _, rfl, rfl, r.bs.b _ _ hx, r.bs.b _ _ hy, most_line (by rw [rx.length, ry.length]; exact hl), fun q hq => ?_⟩)
        exact k (.ref q) _ _ (Ex.new (r.bs.b.free hq)) (r.new hq) (.lst upd_same ((rx.append ry).mono (Ex.new (r.bs.b.free hq))))
    | _ => cases h
  | @tup _ _ xs hx rx =>
    cases py with
    | @tup _ _ ys hy ry =>
      obtain ⟨hl, rfl⟩ := ite_some (show (if xs.length + ys.length ≤ most then some (PyData.tuple (xs ++ ys)) else none) = some z from h)
      · refine .inr (.inr ⟨_, _, _, _, rfl, rfl, sqt_mono r.bs.b hx, sqt_mono r.bs.b hy, most_line (by rw [rx.length, ry.length]; exact hl), fun e => ?_, fun e1 e2 => ?_, fun e1 e2 q hq => ?_⟩)
        · subst e
          cases rx
          exact k _ B H (Ex.refl B) r (.tup hy ry)
        · subst e2
          cases ry
          rw [List.append_nil] at k
          exact k _ B H (Ex.refl B) r (.tup hx rx)
        · exact k (.ref q) _ _ (Ex.new (r.bs.b.free hq)) (r.new hq) (.tup (Or.inl (Or.inl upd_same)) ((rx.append ry).mono (Ex.new (r.bs.b.free hq))))
    | _ => cases h
  | _ => cases h
theorem bin_int {op : Operator} {o : Bop} {C : Int → Int → Prop} {g : Int → Int → Int} (hop : ∀ X : Cx, OpR X (binaryOp op) (rI C fun i j => .int (g i j)))
    (hd : ∀ x y z, binD o x y = some z → ∃ i j, x = .int i ∧ y = .int j ∧ C i j ∧ z = .int (g i j)) (ha : SE Γ a ia) (hb : SE Γ b ib) : SE Γ (.BinOp a op b pos) (.bin o ia ib) := fun X ok => PE_weak (pe_op (hop X) (ha X ok) (hb X ok)) fun σ H Q q => by
  refine tx_bin (f := binD o) (fun env st => by cases o <;> rfl) ?_ q
  intro p st B M F env x y z v u H r px py h Q k
  obtain ⟨i, j, rfl, rfl, hc, rfl⟩ := hd _ _ _ h
  cases px
  cases py
  exact ⟨i, j, rfl, rfl, hc, k _ B H (Ex.refl B) r (.int _)⟩
theorem bin_sub (ha : SE Γ a ia) (hb : SE Γ b ib) : SE Γ (.BinOp a .Sub b pos) (.bin .sub ia ib) :=
  bin_int (C := fun _ _ => True) (g := fun i j => i - j) (fun X pins s σ H x y v u Q I rx ry ⟨i, j, e1, e2, _, q⟩ => op_sub pins s σ H x y v u Q I rx ry ⟨i, j, e1, e2, q⟩)
    (fun x y z h => by cases x <;> cases y <;> first | (cases h; done) | exact ⟨_, _, rfl, rfl, True.intro, (Option.some.inj h).symm⟩) ha hb
theorem bin_mul (ha : SE Γ a ia) (hb : SE Γ b ib) : SE Γ (.BinOp a .Mult b pos) (.bin .mul ia ib) :=
  bin_int (C := CMul) (g := fun i j => i * j) (fun _ => op_mul) (fun x y z h => by
    cases x <;> cases y <;> first | (cases h; done) | skip
    rename_i i j
    obtain ⟨hl, rfl⟩ := ite_some (show (if i.natAbs < 2 ^ 64 ∨ j.natAbs < 2 ^ 64 then some (PyData.int (i * j)) else none) = some z from h)
    refine ⟨_, _, rfl, rfl, ?_, rfl⟩
    rcases hl with hl | hl
    · exact .inl (by omega)
    · exact .inr (by omega)) ha hb
theorem bin_fdv (ha : SE Γ a ia) (hb : SE Γ b ib) : SE Γ (.BinOp a .FloorDiv b pos) (.bin .fdv ia ib) :=
  bin_int (C := CDiv) (g := fun i j => i / j) (fun _ => op_fdiv) (fun x y z h => by
    cases x <;> cases y <;> first | (cases h; done) | skip
    rename_i i j
    obtain ⟨hl, rfl⟩ := ite_some (show (if 0 < j ∧ j < 1073741824 then some (PyData.int (i / j)) else none) = some z from h)
    exact ⟨_, _, rfl, rfl, hl, rfl⟩) ha hb
theorem bin_mod (ha : SE Γ a ia) (hb : SE Γ b ib) : SE Γ (.BinOp a .Mod b pos) (.bin .mod ia ib) :=
  bin_int (C := fun _ j => 0 < j) (g := fun i j => i % j) (fun _ => op_mod) (fun x y z h => by
    cases x <;> cases y <;> first | (cases h; done) | skip
    rename_i i j
    obtain ⟨hl, rfl⟩ := ite_some (show (if 0 < j then some (PyData.int (i % j)) else none) = some z from h)
    exact ⟨_, _, rfl, rfl, hl, rfl⟩) ha hb
theorem bin_pow (ha : SE Γ a ia) (hb : SE Γ b ib) : SE Γ (.BinOp a .Pow b pos) (.bin .pow ia ib) :=
  bin_int (C := CPow) (g := fun i j => i ^ j.toNat) (fun _ => op_pow) (fun x y z h => by
    cases x <;> cases y <;> first | (cases h; done) | skip
    rename_i i j
    obtain ⟨hl, rfl⟩ := ite_some (show (if 0 ≤ j ∧ j ≤ 64 ∧ i.natAbs < 2 ^ 64 then some (PyData.int (i ^ j.toNat)) else none) = some z from h)
    exact ⟨_, _, rfl, rfl, ⟨hl.1, by omega, hl.2.2⟩, rfl⟩) ha hb
/-! ### comparisons -/
theorem tx_cmp {K : PySem.W.Frag} {cl : Cl} {o : Cop} {r : R2} {σ : L2.St} {H : Hp} {Q : VK}
    (hr : ∀ {p st B M F env x y z v u H}, Rel K p st B M F env σ H → Rp K B v x → Rp K B u y → cmpD o x y = some z → ∀ Q : VK, Q (.bl z) H → r v u H Q)
    (q : Tx K cl (.cmp o ia ib) σ H Q) : tOp r (Tx K cl ia) (Tx K cl ib) σ H Q := by
  obtain ⟨p, st, B, M, F, env, d, st', rl, he, k⟩ := q
  unfold ev at he
  cases e1 : ev cl ia env st with
  | none =>
    rw [e1] at he
    cases he
  | some xs =>
    obtain ⟨x, st1⟩ := xs
    rw [e1] at he
    cases e2 : ev cl ib env st1 with
    | none =>
      simp only [e2] at he
      cases he
    | some ys =>
      obtain ⟨y, st2⟩ := ys
      simp only [e2] at he
      cases e3 : cmpD o x y with
      | none =>
        rw [e3] at he
        cases he
      | some z =>
        rw [e3] at he
        cases he
        exact ⟨p, st, B, M, F, env, x, st1, rl, e1, fun v B1 H1 x1 r1 p1 => ⟨p, st1, B1, M, F, env, y, _, r1, e2, fun u B2 H2 x2 r2 p2 =>
          hr r2 (p1.mono x2) p2 e3 Q (k _ B2 H2 (x1.trans x2) r2 (.bl _))⟩⟩
theorem tt_cmp {K : PySem.W.Frag} {cl : Cl} {o : Cop} {r : R2} {σ : L2.St} {H : Hp} {Q : Bool → Hp → Prop}
    (hr : ∀ {p st B M F env x y z v u H}, Rel K p st B M F env σ H → Rp K B v x → Rp K B u y → cmpD o x y = some z → ∀ Q : VK, Q (.bl z) H → r v u H Q)
    (q : Tt K cl (.cmp o ia ib) σ H Q) : tTest (tOp r (Tx K cl ia) (Tx K cl ib)) σ H Q := by
  obtain ⟨p, st, B, M, F, env, b, st', rl, he, k⟩ := q
  refine tx_cmp hr ⟨p, st, B, M, F, env, _, st', rl, he, fun v B' H' x r pv => ?_⟩
  cases pv
  exact ⟨b, rfl, k B' H' x r⟩
/-- a comparison's rule, over data -/
structure CmpOk (op : CmpOp) (o : Cop) where
  r : PySem.W.Frag → R2
  ok : ∀ X : Cx, X.A.units + 64 < cLine → OpR X (compareOp op) (r X.K)
  rd : ∀ {K σ p st B M F env x y z v u H}, Rel K p st B M F env σ H → Rp K B v x → Rp K B u y → cmpD o x y = some z → ∀ Q : VK, Q (.bl z) H → r K v u H Q
theorem cmp_se {op : CmpOp} {o : Cop} (C : CmpOk op o) (ha : SE Γ a ia) (hb : SE Γ b ib) (hm : behindInMarks op b = false) : SE Γ (.Compare a [op] [b] pos) (.cmp o ia ib) := fun X ok =>
  PE_weak (pe_cmpR (C.ok X (by have := ok.units; omega)) (ha X ok) (hb X ok) hm) fun σ H Q q => by
    rw [ok.K]
    exact tx_cmp (fun r1 p1 p2 e Q q => C.rd r1 p1 p2 e Q q) q
theorem cmp_st {op : CmpOp} {o : Cop} (C : CmpOk op o) (ha : SE Γ a ia) (hb : SE Γ b ib) (hm : behindInMarks op b = false) : ST Γ (.Compare a [op] [b] pos) (.cmp o ia ib) := fun X ok =>
  PT_weak (pt_cmpR (C.ok X (by have := ok.units; omega)) (ha X ok) (hb X ok) hm) fun σ H Q q => by
    rw [ok.K]
    exact tt_cmp (fun r1 p1 p2 e Q q => C.rd r1 p1 p2 e Q q) q
theorem eq_rd {K : PySem.W.Frag} {σ : L2.St} {p : Pa} {st : Pl} {B M F : Hp} {env : List Sl} {x y : D} {z : Bool} {v u : V} {H : Hp} (r : Rel K p st B M F env σ H) (px : Rp K B v x) (py : Rp K B u y) (h : eqD x y = some z) :
    (scal v u = true ∧ decide (v = u) = z) ∨ (SeqAt.shaped x = true ∧ SeqAt.shaped y = true ∧ PyData.eqv x y = z) := by
  have sh : (if SeqAt.shaped x = true ∧ SeqAt.shaped y = true then some (PyData.eqv x y) else none) = some z → SeqAt.shaped x = true ∧ SeqAt.shaped y = true ∧ PyData.eqv x y = z := fun h => by
    obtain ⟨hl, e⟩ := ite_some h
    exact ⟨hl.1, hl.2, e⟩
  cases px with
  | str s =>
    cases py with
    | str t =>
      refine .inl ⟨rfl, ?_⟩
      cases h
      simp
    | int i =>
      cases h
      exact .inl ⟨rfl, by simp⟩
    | _ => exact .inr (sh h)
  | int i =>
    cases py with
    | int j =>
      refine .inl ⟨rfl, ?_⟩
      cases h
      simp
    | str t =>
      cases h
      exact .inl ⟨rfl, by simp⟩
    | _ => exact .inr (sh h)
  | bl a =>
    cases py with
    | bl b =>
      refine .inl ⟨rfl, ?_⟩
      cases h
      simp
    | _ => exact .inr (sh h)
  | _ => exact .inr (sh (by cases py <;> exact h))
def cEq : CmpOk .Eq .eq where
  r := fun K x y H Q => rEq x y H Q ∨ rEqD K x y H Q
  ok := fun X hu => OpR.or op_eq (op_eqD hu)
  rd := fun {K σ p st B M F env x y z v u H} r px py h Q q => by
    rcases eq_rd (σ := σ) r px py h with ⟨h1, h2⟩ | ⟨h1, h2, h3⟩
    · exact .inl ⟨h1, by rw [h2]; exact q⟩
    · exact .inr ⟨x, y, px.dp r.bs.b, py.dp r.bs.b, h1, h2, by rw [h3]; exact q⟩
def cNe : CmpOk .NotEq .ne where
  r := fun K x y H Q => rNe x y H Q ∨ rNeD K x y H Q
  ok := fun X hu => OpR.or op_ne (op_neD hu)
  rd := fun {K σ p st B M F env x y z v u H} r px py h Q q => by
    obtain ⟨w, hw, rfl⟩ := Option.map_eq_some_iff.mp (show (eqD x y).map (!·) = some z from h)
    rcases eq_rd (σ := σ) r px py hw with ⟨h1, h2⟩ | ⟨h1, h2, h3⟩
    · exact .inl ⟨h1, by rw [h2]; exact q⟩
    · exact .inr ⟨x, y, px.dp r.bs.b, py.dp r.bs.b, h1, h2, by rw [h3]; exact q⟩
def cInt {op : CmpOp} {o : Cop} (g : Int → Int → Bool) (hop : ∀ X : Cx, OpR X (compareOp op) (rI0 fun i j => .bl (g i j))) (hd : ∀ x y z, cmpD o x y = some z → ∃ i j, x = .int i ∧ y = .int j ∧ z = g i j) : CmpOk op o where
  r := fun _ => rI0 fun i j => .bl (g i j)
  ok := fun X _ => hop X
  rd := fun {K σ p st B M F env x y z v u H} r px py h Q q => by
    obtain ⟨i, j, rfl, rfl, rfl⟩ := hd _ _ _ h
    cases px
    cases py
    exact ⟨i, j, rfl, rfl, q⟩
def cLt : CmpOk .Lt .lt := cInt (fun i j => decide (i < j)) (fun _ => op_lt) fun x y z h => by cases x <;> cases y <;> first | (cases h; done) | exact ⟨_, _, rfl, rfl, (Option.some.inj h).symm⟩
def cLe : CmpOk .LtE .le := cInt (fun i j => decide (i ≤ j)) (fun _ => op_le) fun x y z h => by cases x <;> cases y <;> first | (cases h; done) | exact ⟨_, _, rfl, rfl, (Option.some.inj h).symm⟩
def cGt : CmpOk .Gt .gt := cInt (fun i j => decide (j < i)) (fun _ => op_gt) fun x y z h => by cases x <;> cases y <;> first | (cases h; done) | exact ⟨_, _, rfl, rfl, (Option.some.inj h).symm⟩
def cGe : CmpOk .GtE .ge := cInt (fun i j => decide (j ≤ i)) (fun _ => op_ge) fun x y z h => by cases x <;> cases y <;> first | (cases h; done) | exact ⟨_, _, rfl, rfl, (Option.some.inj h).symm⟩
theorem isNon_rp {K : PySem.W.Frag} {B : Hp} {v : V} {x : D} (h : Rp K B v x) : decide (v = .non) = (match x with
    | .none => true
    | _ => false) := by
  cases h <;> simp
def cIs : CmpOk .Is .isN where
  r := fun _ => fun x y H Q => y = .non ∧ Q (.bl (decide (x = .non))) H
  ok := fun X _ => op_isN
  rd := fun {K σ p st B M F env x y z v u H} r px py h Q q => by
    cases py with
    | non =>
      refine ⟨rfl, ?_⟩
      rw [isNon_rp px]
      cases px <;> (cases h; exact q)
    | _ => cases px <;> (cases h; done)
def cIsN : CmpOk .IsNot .noN where
  r := fun _ => fun x y H Q => y = .non ∧ Q (.bl (!decide (x = .non))) H
  ok := fun X _ => op_notN
  rd := fun {K σ p st B M F env x y z v u H} r px py h Q q => by
    cases py with
    | non =>
      refine ⟨rfl, ?_⟩
      rw [isNon_rp px]
      cases px <;> (cases h; exact q)
    | _ => cases px <;> (cases h; done)
theorem flat_rp {K : PySem.W.Frag} {B : Hp} {v : V} {x : D} (h : Rp K B v x) : flatV v = flatD x := by cases h <;> rfl
theorem flat_all {K : PySem.W.Frag} {B : Hp} : ∀ {vs : List V} {xs : List D}, RpA K B vs xs → vs.all flatV = xs.all flatD
  | _, _, .nil => rfl
  | _, _, .cons h r => by rw [List.all_cons, List.all_cons, flat_rp h, flat_all r]
theorem eqv_rp {K : PySem.W.Frag} {B : Hp} {v u : V} {x y : D} (h : Rp K B v x) (g : Rp K B u y) (fx : flatD x = true) (fy : flatD y = true) : eqV v u = PyData.eqv x y := by
  cases h <;> cases g <;> first | rfl | (exact nomatch fx) | (exact nomatch fy)
theorem mem_rp {K : PySem.W.Frag} {B : Hp} {u : V} {x : D} (h : Rp K B u x) (fx : flatD x = true) : ∀ {vs : List V} {ys : List D}, RpA K B vs ys → ys.all flatD = true → inV u vs = memD x ys
  | _, _, .nil, _ => rfl
  | _, _, .cons g r, f => by
    rw [List.all_cons, Bool.and_eq_true] at f
    have ih := mem_rp h fx r f.2
    unfold inV memD at ih ⊢
    rw [List.any_cons, List.any_cons, eqv_rp g h f.1 fx, ih]
def rInD (neg : Bool) (K : PySem.W.Frag) : R2 := fun x y H Q => rIn K neg x y H Q ∨ ∃ (c : Nat) (z : Str), x = .str ⟨#[c]⟩ ∧ y = .str z ∧ Q (.bl (if neg then !decide (c ∈ z.cps.toList) else decide (c ∈ z.cps.toList))) H
theorem str_one {s : Str} (h : s.length = 1) : s = ⟨#[s.cps.getD 0 0]⟩ := by
  obtain ⟨⟨l⟩⟩ := s
  match l, h with
  | [c], _ => rfl
theorem in_rd {neg : Bool} {K : PySem.W.Frag} {σ : L2.St} {p : Pa} {st : Pl} {B M F : Hp} {env : List Sl} {x y : D} {z : Bool} {v u : V} {H : Hp} (r : Rel K p st B M F env σ H) (px : Rp K B v x) (py : Rp K B u y) (h : inD x y = some z) (Q : VK)
    (q : Q (.bl (if neg then !z else z)) H) : rInD neg K v u H Q := by
  cases py with
  | @lst a xs ys hy ry =>
    obtain ⟨hl, rfl⟩ := ite_some (show (if flatD x = true ∧ ys.all flatD = true then some (memD x ys) else none) = some z from h)
    refine .inl ⟨a, xs, rfl, .inl (Or.inl (Or.inl (r.bs.b _ _ hy))), by rw [flat_rp px]; exact hl.1, by rw [flat_all ry]; exact hl.2, ?_⟩
    rw [mem_rp px hl.1 ry hl.2]
    exact q
  | @tup a xs ys hy ry =>
    obtain ⟨hl, rfl⟩ := ite_some (show (if flatD x = true ∧ ys.all flatD = true then some (memD x ys) else none) = some z from h)
    refine .inl ⟨a, xs, rfl, .inr (sqt_mono r.bs.b hy), by rw [flat_rp px]; exact hl.1, by rw [flat_all ry]; exact hl.2, ?_⟩
    rw [mem_rp px hl.1 ry hl.2]
    exact q
  | str t =>
    cases px with
    | str s =>
      obtain ⟨hl, rfl⟩ := ite_some (show (if s.length = 1 then some (decide (s.cps.getD 0 0 ∈ t.cps.toList)) else none) = some z from h)
      exact .inr ⟨_, t, congrArg V.str (str_one hl), rfl, q⟩
    | _ => cases h
  | _ => cases h
def cIn : CmpOk .In .isin where
  r := rInD false
  ok := fun X _ => OpR.or op_in_seq op_in_sign
  rd := fun r px py h Q q => in_rd (neg := false) r px py h Q q
def cNotIn : CmpOk .NotIn .notin where
  r := rInD true
  ok := fun X _ => OpR.or op_notIn_seq op_notIn_sign
  rd := fun {K σ p st B M F env x y z v u H} r px py h Q q => by
    obtain ⟨w, hw, rfl⟩ := Option.map_eq_some_iff.mp (show (inD x y).map (!·) = some z from h)
    exact in_rd (neg := true) r px py hw Q q
end
end Ip

set_option Elab.async false
set_option linter.all false
set_option maxRecDepth 100000
set_option maxHeartbeats 4000000
namespace Ip
open PySem L2
section
variable {Γ : Gam} {e a b c : Expr} {es rest : List Expr} {ia ib ic i : IE} {ies : IEs} {pos : Pos}
/-! ### and, or, not, - -/
theorem ev_and {cl : Cl} {env : List Sl} {st : Pl} {d : D × Pl} (h : ev cl (.and ia ib) env st = some d) : (∃ st1, ev cl ia env st = some (.bool true, st1) ∧ ev cl ib env st1 = some d) ∨ (∃ st1, ev cl ia env st = some (.bool false, st1) ∧ d = (.bool false, st1)) := by
  unfold ev at h
  split at h
  · rename_i st1 e1
    exact .inl ⟨st1, e1, h⟩
  · rename_i st1 e1
    exact .inr ⟨st1, e1, (Option.some.inj h).symm⟩
  · cases h
theorem ev_or {cl : Cl} {env : List Sl} {st : Pl} {d : D × Pl} (h : ev cl (.or ia ib) env st = some d) : (∃ st1, ev cl ia env st = some (.bool false, st1) ∧ ev cl ib env st1 = some d) ∨ (∃ st1, ev cl ia env st = some (.bool true, st1) ∧ d = (.bool true, st1)) := by
  unfold ev at h
  split at h
  · rename_i st1 e1
    exact .inr ⟨st1, e1, (Option.some.inj h).symm⟩
  · rename_i st1 e1
    exact .inl ⟨st1, e1, h⟩
  · cases h
theorem ev_not {cl : Cl} {env : List Sl} {st : Pl} {d : D × Pl} (h : ev cl (.not ia) env st = some d) : ∃ b st1, ev cl ia env st = some (.bool b, st1) ∧ d = (.bool (!b), st1) := by
  unfold ev at h
  split at h
  · rename_i b st1 e1
    exact ⟨b, st1, e1, (Option.some.inj h).symm⟩
  · cases h
theorem st_se (h : SE Γ e i) (he : ∀ env whole, isTrue e env whole = (do let v ← whole; standAt e.pos; holding [v] (truthy v)) := by intro _ _; rfl) : ST Γ e i := fun X o =>
  PT_weak (pt_val (h X o) (fun w => he X.env w)) fun σ H Q q => by
    obtain ⟨p, st, B, M, F, env, b, st', r, he, k⟩ := q
    refine ⟨p, st, B, M, F, env, _, st', r, he, fun v B' H' x r' pv => ?_⟩
    cases pv
    exact ⟨b, rfl, k B' H' x r'⟩
theorem se_one {op : BoolOp} (h : SE Γ a i) : SE Γ (.BoolOp op [a] pos) i := fun X o => pe_one (h X o)
theorem se_and (ha : SE Γ a ia) (hb : SE Γ (.BoolOp .And (b :: rest) pos) ib) : SE Γ (.BoolOp .And (a :: b :: rest) pos) (.and ia ib) := fun X o => PE_weak (pe_and (ha X o) (hb X o)) fun σ H Q q => by
  obtain ⟨p, st, B, M, F, env, d, st', r, he, k⟩ := q
  rcases ev_and he with ⟨st1, e1, e2⟩ | ⟨st1, e1, e2⟩
  · refine ⟨p, st, B, M, F, env, _, st1, r, e1, fun v B1 H1 x1 r1 p1 => ?_⟩
    cases p1
    refine ⟨true, rfl, iteT ⟨p, st1, B1, M, F, env, d, st', r1, e2, fun v B' H' x2 r2 p2 => k v B' H' (x1.trans x2) r2 p2⟩⟩
  · cases e2
    refine ⟨p, st, B, M, F, env, _, _, r, e1, fun v B1 H1 x1 r1 p1 => ?_⟩
    cases p1
    exact ⟨false, rfl, iteF (k _ B1 H1 x1 r1 (.bl _))⟩
theorem se_or (ha : SE Γ a ia) (hb : SE Γ (.BoolOp .Or (b :: rest) pos) ib) : SE Γ (.BoolOp .Or (a :: b :: rest) pos) (.or ia ib) := fun X o => PE_weak (pe_or (ha X o) (hb X o)) fun σ H Q q => by
  obtain ⟨p, st, B, M, F, env, d, st', r, he, k⟩ := q
  rcases ev_or he with ⟨st1, e1, e2⟩ | ⟨st1, e1, e2⟩
  · refine ⟨p, st, B, M, F, env, _, st1, r, e1, fun v B1 H1 x1 r1 p1 => ?_⟩
    cases p1
    refine ⟨false, rfl, iteF ⟨p, st1, B1, M, F, env, d, st', r1, e2, fun v B' H' x2 r2 p2 => k v B' H' (x1.trans x2) r2 p2⟩⟩
  · cases e2
    refine ⟨p, st, B, M, F, env, _, _, r, e1, fun v B1 H1 x1 r1 p1 => ?_⟩
    cases p1
    exact ⟨true, rfl, iteT (k _ B1 H1 x1 r1 (.bl _))⟩
theorem se_not (ha : SE Γ a ia) : SE Γ (.UnaryOp .Not a pos) (.not ia) := fun X o => PE_weak (pe_not (ha X o)) fun σ H Q q => by
  obtain ⟨p, st, B, M, F, env, d, st', r, he, k⟩ := q
  obtain ⟨b, st1, e1, e2⟩ := ev_not he
  cases e2
  refine ⟨p, st, B, M, F, env, _, _, r, e1, fun v B1 H1 x1 r1 p1 => ?_⟩
  cases p1
  exact ⟨b, rfl, k _ B1 H1 x1 r1 (.bl _)⟩
theorem se_neg (ha : SE Γ a ia) : SE Γ (.UnaryOp .USub a pos) (.neg ia) := fun X o => PE_weak (pe_un un_neg (ha X o)) fun σ H Q q => by
  obtain ⟨p, st, B, M, F, env, d, st', r, he, k⟩ := q
  unfold ev at he
  split at he
  · rename_i n st1 e1
    cases he
    refine ⟨p, st, B, M, F, env, _, _, r, e1, fun v B1 H1 x1 r1 p1 => ?_⟩
    cases p1
    exact ⟨n, rfl, k _ B1 H1 x1 r1 (.int _)⟩
  · cases he
theorem sw_and1 (h : ST Γ a i) : SW Γ (.BoolOp .And [a] pos) i := fun X o => pw_and1 (h X o)
theorem sw_or1 (h : ST Γ a i) : SW Γ (.BoolOp .Or [a] pos) i := fun X o => pw_or1 (h X o)
theorem sw_and (ha : ST Γ a ia) (hb : SW Γ (.BoolOp .And (b :: rest) pos) ib) : SW Γ (.BoolOp .And (a :: b :: rest) pos) (.and ia ib) := fun X o => PW_weak (pw_and (ha X o) (hb X o)) fun σ H Q q => by
  obtain ⟨p, st, B, M, F, env, d, st', r, he, k⟩ := q
  rcases ev_and he with ⟨st1, e1, e2⟩ | ⟨st1, e1, e2⟩
  · exact ⟨p, st, B, M, F, env, true, st1, r, e1, fun B1 H1 x1 r1 => iteT ⟨p, st1, B1, M, F, env, d, st', r1, e2, fun B' H' x2 r2 => k B' H' (x1.trans x2) r2⟩⟩
  · cases e2
    exact ⟨p, st, B, M, F, env, false, _, r, e1, fun B1 H1 x1 r1 => iteF (k B1 H1 x1 r1)⟩
theorem sw_or (ha : ST Γ a ia) (hb : SW Γ (.BoolOp .Or (b :: rest) pos) ib) : SW Γ (.BoolOp .Or (a :: b :: rest) pos) (.or ia ib) := fun X o => PW_weak (pw_or (ha X o) (hb X o)) fun σ H Q q => by
  obtain ⟨p, st, B, M, F, env, d, st', r, he, k⟩ := q
  rcases ev_or he with ⟨st1, e1, e2⟩ | ⟨st1, e1, e2⟩
  · exact ⟨p, st, B, M, F, env, false, st1, r, e1, fun B1 H1 x1 r1 => iteF ⟨p, st1, B1, M, F, env, d, st', r1, e2, fun B' H' x2 r2 => k B' H' (x1.trans x2) r2⟩⟩
  · cases e2
    exact ⟨p, st, B, M, F, env, true, _, r, e1, fun B1 H1 x1 r1 => iteT (k B1 H1 x1 r1)⟩
theorem st_sw (h : SW Γ e i) : ST Γ e i := fun X o => (h X o).pt
theorem st_not (ha : ST Γ a ia) : ST Γ (.UnaryOp .Not a pos) (.not ia) := fun X o => PT_weak (pt_not (ha X o)) fun σ H Q q => by
  obtain ⟨p, st, B, M, F, env, d, st', r, he, k⟩ := q
  obtain ⟨b, st1, e1, e2⟩ := ev_not he
  cases e2
  exact ⟨p, st, B, M, F, env, b, _, r, e1, fun B1 H1 x1 r1 => k B1 H1 x1 r1⟩
theorem se_ifx (hc : ST Γ c ic) (ha : SE Γ a ia) (hb : SE Γ b ib) : SE Γ (.IfExp c a b pos) (.ifx ic ia ib) := fun X o => PE_weak (pe_ifExp (hc X o) (ha X o) (hb X o)) fun σ H Q q => by
  obtain ⟨p, st, B, M, F, env, d, st', r, he, k⟩ := q
  unfold ev at he
  split at he
  · rename_i st1 e1
    exact ⟨p, st, B, M, F, env, true, st1, r, e1, fun B1 H1 x1 r1 => iteT ⟨p, st1, B1, M, F, env, d, st', r1, he, fun v B' H' x2 r2 p2 => k v B' H' (x1.trans x2) r2 p2⟩⟩
  · rename_i st1 e1
    exact ⟨p, st, B, M, F, env, false, st1, r, e1, fun B1 H1 x1 r1 => iteF ⟨p, st1, B1, M, F, env, d, st', r1, he, fun v B' H' x2 r2 p2 => k v B' H' (x1.trans x2) r2 p2⟩⟩
  · cases he
/-! ### arguments -/
theorem sa_nil : SA Γ [] .nil := fun X o => PA_weak pa_nil fun σ H Q q => by
  obtain ⟨p, st, B, M, F, env, ds, st', r, he, k⟩ := q
  unfold ea at he
  cases he
  exact k [] B H (Ex.refl B) r .nil
theorem sa_cons (he : SE Γ e i) (hr : SA Γ es ies) (hs : ∀ env, starEach (e :: es) env = (false, eval e env) :: starEach es env := by intro _; rfl) : SA Γ (e :: es) (.cons i ies) := fun X o => PA_weak (pa_cons (he X o) (hr X o) (hs _)) fun σ H Q q => by
  obtain ⟨p, st, B, M, F, env, ds, st', r, he, k⟩ := q
  unfold ea at he
  cases e1 : ev Γ.cl i env st with
  | none =>
    rw [e1] at he
    cases he
  | some xs =>
    obtain ⟨x, st1⟩ := xs
    rw [e1] at he
    cases e2 : ea Γ.cl ies env st1 with
    | none =>
      simp only [e2] at he
      cases he
    | some ys =>
      obtain ⟨ys, st2⟩ := ys
      simp only [e2] at he
      cases he
      exact ⟨p, st, B, M, F, env, x, st1, r, e1, fun v B1 H1 x1 r1 p1 => ⟨p, st1, B1, M, F, env, ys, _, r1, e2, fun vs B2 H2 x2 r2 p2 => k _ B2 H2 (x1.trans x2) r2 (.cons (p1.mono x2) p2)⟩⟩
theorem ArA.mono {K : PySem.W.Frag} {p : Pa} {B B' : Hp} (x : Ex B B') : ∀ {vs : List V} {ds : List (Option D)}, ArA K p B vs ds → ArA K p B' vs ds
  | _, _, .nil => .nil
  | _, _, .cons h r => .cons (h.mono x) (ArA.mono x r)
  | _, _, .pool r => .pool (ArA.mono x r)
theorem sg_nil : SG Γ [] .nil := fun X o => PA_weak pa_nil fun σ H Q q => by
  obtain ⟨p, st, B, M, F, env, ds, st', r, he, k⟩ := q
  unfold ag at he
  cases he
  exact k [] B H (Ex.refl B) r .nil
theorem sg_cons (he : SE Γ e i) (hr : SG Γ es ies) (hs : ∀ env, starEach (e :: es) env = (false, eval e env) :: starEach es env := by intro _; rfl) : SG Γ (e :: es) (.cons i ies) := fun X o => PA_weak (pa_cons (he X o) (hr X o) (hs _)) fun σ H Q q => by
  obtain ⟨p, st, B, M, F, env, ds, st', r, he, k⟩ := q
  unfold ag at he
  cases e1 : ev Γ.cl i env st with
  | none =>
    rw [e1] at he
    cases he
  | some xs =>
    obtain ⟨x, st1⟩ := xs
    rw [e1] at he
    cases e2 : ag Γ.cl ies env st1 with
    | none =>
      simp only [e2] at he
      cases he
    | some ys =>
      obtain ⟨ys, st2⟩ := ys
      simp only [e2] at he
      cases he
      exact ⟨p, st, B, M, F, env, x, st1, r, e1, fun v B1 H1 x1 r1 p1 => ⟨p, st1, B1, M, F, env, ys, _, r1, e2, fun vs B2 H2 x2 r2 p2 => k _ B2 H2 (x1.trans x2) r2 (.cons (p1.mono x2) p2)⟩⟩
theorem sg_pool (n : Nat) {x : Str} (hr : SG Γ es ies) (hN : Γ.N[n]? = some x := by rfl) (hv : Vis Γ.sc x := by first | exact Or.inl rfl | exact Or.inr (Or.inl rfl) | exact Or.inr (Or.inr rfl)) (hd : (x == ("__debug__" : Str)) = false := by decide) (hcd : (x == ("__classdict__" : Str)) = false := by decide)
    (hs : ∀ env, starEach (.Name x pos :: es) env = (false, eval (.Name x pos) env) :: starEach es env := by intro _; rfl) : SG Γ (.Name x pos :: es) (.pool n ies) := fun X o =>
  PA_weak (pa_cons (pe_var (i := n) (by rw [o.N]; exact hN) (by rw [o.sc]; exact hv) hd hcd) (hr X o) (hs _)) fun σ H Q q => by
  obtain ⟨p, st, B, M, F, env, ds, st', r, he, k⟩ := q
  unfold ag at he
  split at he
  · rename_i e1
    cases e2 : ag Γ.cl ies env st with
    | none =>
      simp only [e2] at he
      cases he
    | some ys =>
      obtain ⟨ys, st2⟩ := ys
      simp only [e2] at he
      cases he
      obtain ⟨ov, h1, h2⟩ := r.en.at_ n _ e1
      cases ov with
      | none => exact h2.elim
      | some v =>
        cases v with
        | ref q =>
          obtain rfl : q = p := h2
          exact ⟨_, h1, p, st, B, M, F, env, ys, _, r, e2, fun vs B2 H2 x2 r2 p2 => k _ B2 H2 x2 r2 (.pool p2)⟩
        | _ => exact h2.elim
  · cases he
/-! ### displays -/
theorem tup_se (h : SA Γ es ies) {x1} : SE Γ (.Tuple es x1 pos) (.tup ies) := fun X o => PE_weak (pe_tup (h X o)) fun σ H Q q => by
  obtain ⟨p, st, B, M, F, env, d, st', r, he, k⟩ := q
  unfold ev at he
  cases e1 : ea Γ.cl ies env st with
  | none =>
    rw [e1] at he
    cases he
  | some ys =>
    obtain ⟨ys, st1⟩ := ys
    rw [e1] at he
    obtain ⟨hl, he⟩ := ite_some he
    cases he
    refine ⟨p, st, B, M, F, env, ys, _, r, e1, fun vs B1 H1 x1 r1 p1 => ⟨most_line (by rw [p1.length]; exact hl), fun q hq => ?_⟩⟩
    exact k (.ref q) _ _ (x1.trans (Ex.new (r1.bs.b.free hq))) (r1.new hq) (.tup (Or.inl (Or.inl upd_same)) (p1.mono (Ex.new (r1.bs.b.free hq))))
theorem ev_lst {cl : Cl} {env : List Sl} {st : Pl} {d : D} {st' : Pl} (he : ev cl (.lst ies) env st = some (d, st')) : ∃ ys, ea cl ies env st = some (ys, st') ∧ ys.length ≤ most ∧ d = .list ys := by
  unfold ev at he
  cases e1 : ea cl ies env st with
  | none =>
    rw [e1] at he
    cases he
  | some ys =>
    obtain ⟨ys, st1⟩ := ys
    rw [e1] at he
    obtain ⟨hl, he⟩ := ite_some he
    cases he
    exact ⟨ys, rfl, hl, rfl⟩
theorem Rel.freshM {K : PySem.W.Frag} {p : Pa} {st : Pl} {B M F : Hp} {env : List Sl} {σ : L2.St} {H : Hp} (r : Rel K p st B M F env σ H) {q : Addr} (h : H q = none) : B q = none ∧ M q = none ∧ F q = none ∧ q ≠ p := ⟨r.bs.b.free h, r.m.free h, r.bs.f.free h, r.bs.pn h⟩
/-- the heap grows by something that nobody speaks of -/
theorem Rel.more {K : PySem.W.Frag} {p : Pa} {st : Pl} {B M F : Hp} {env : List Sl} {σ : L2.St} {H : Hp} (r : Rel K p st B M F env σ H) {q : Addr} {o : HO} (h : H q = none) : Rel K p st B M F env σ (upd H q o) where
  bs := {
    b := r.bs.b.right (r.bs.b.free h)
    f := r.bs.f.right (r.bs.f.free h)
    d := r.bs.d
    pf := r.bs.pf
    pb := r.bs.pb
    pl := by
      obtain ⟨h1, h2⟩ := r.bs.pl
      exact ⟨by rw [upd_ne (fun e => r.bs.pn h e.symm)]; exact h1, h2⟩ }
  m := r.m.right (r.m.free h)
  md := r.md
  en := r.en
theorem lst_sf (h : SA Γ es ies) : SF Γ (.List es pos) (.lst ies) := fun X o => PE_weak (pe_lst (h X o)) fun σ H Q q => by
  obtain ⟨p, st, B, M, F, env, ds, st', r, he, k⟩ := q
  obtain ⟨ys, e1, hl, e2⟩ := ev_lst he
  cases e2
  refine ⟨p, st, B, M, F, env, ds, _, r, e1, fun vs B1 H1 x1 r1 p1 => ⟨most_line (by rw [p1.length]; exact hl), fun q hq => ?_⟩⟩
  obtain ⟨h1, h2, h3, h4⟩ := r1.freshM hq
  exact k q vs B1 _ x1 h1 h2 h3 h4 upd_same p1 (r1.more hq)
theorem lst_se (h : SA Γ es ies) : SE Γ (.List es pos) (.lst ies) := (lst_sf h).se fun _ _ _ _ _ he => by
  obtain ⟨ys, _, _, e⟩ := ev_lst he
  exact ⟨ys, e⟩
/-! ### subscripts, slices -/
theorem RpA.atI {K : PySem.W.Frag} {B : Hp} {vs : List V} {ds : List D} {n : Int} {d : D} (r : RpA K B vs ds) (h : atI ds n = some d) : ∃ v, atI vs n = some v ∧ Rp K B v d := by
  unfold L2.atI at h ⊢
  obtain ⟨j, h1, h2⟩ := Option.bind_eq_some_iff.mp h
  rw [r.length, h1]
  exact r.get h2
theorem ix_se (ha : SE Γ a ia) (hb : SE Γ b ib) (hs : PlainIx b := by intro _ _; rfl) : SE Γ (.Subscript a b pos) (.ix ia ib) := fun X o => PE_weak (pe_ix (IxR.or ix_list (IxR.or ix_tup ix_str)) (ha X o) (hb X o) hs) fun σ H Q q => by
  rw [o.K]
  refine tx_bin (f := ixD) (fun env st => rfl) ?_ q
  intro p st B M F env x y z v u H r px py h Q k
  cases py with
  | int n =>
    cases px with
    | @lst a xs ds hx rx =>
      obtain ⟨v, h1, h2⟩ := rx.atI h
      exact .inl ⟨a, xs, n, v, rfl, rfl, Or.inl (Or.inl (r.bs.b _ _ hx)), h1, k v B H (Ex.refl B) r h2⟩
    | @tup a xs ds hx rx =>
      obtain ⟨v, h1, h2⟩ := rx.atI h
      exact .inr (.inl ⟨a, xs, n, v, rfl, rfl, sqt_mono r.bs.b hx, h1, k v B H (Ex.refl B) r h2⟩)
    | str s =>
      have h' : (if s.length ≤ most then (atI s.cps.toList n).map fun c => PyData.str ⟨#[c]⟩ else none) = some z := h
      by_cases hl : s.length ≤ most
      · rw [if_pos hl] at h'
        obtain ⟨c, h1, rfl⟩ := Option.map_eq_some_iff.mp h'
        exact .inr (.inr ⟨s, n, c, rfl, rfl, most_line hl, h1, k _ B H (Ex.refl B) r (.str _)⟩)
      · rw [if_neg hl] at h'
        cases h'
    | _ => cases h
  | _ => cases px <;> (cases h; done)
theorem so_non : SO Γ none .non := fun X o => PO_weak po_none fun σ H Q q => by
  obtain ⟨p, st, B, M, F, env, l, st', r, he, k⟩ := q
  unfold eo at he
  cases he
  exact k B H (Ex.refl B) r
theorem so_some (h : SE Γ e i) : SO Γ (some e) (.some i) := fun X o => PO_weak (po_some (h X o)) fun σ H Q q => by
  obtain ⟨p, st, B, M, F, env, l, st', r, he, k⟩ := q
  unfold eo at he
  split at he
  · rename_i n st1 e1
    cases he
    refine ⟨p, st, B, M, F, env, _, _, r, e1, fun v B1 H1 x1 r1 p1 => ?_⟩
    cases p1
    exact ⟨n, rfl, k B1 H1 x1 r1⟩
  · cases he
theorem RpA.cut {K : PySem.W.Frag} {B : Hp} {vs : List V} {ds : List D} (r : RpA K B vs ds) (lo hi : Option Int) : RpA K B (cutV vs lo hi) (cutD ds lo hi) := by
  unfold cutV cutD
  rw [r.length]
  exact (r.drop _).take _
theorem cut_whole {vs : List V} {lo hi : Option Int} (h : HT.sIx vs.length 0 lo = 0 ∧ HT.sIx vs.length vs.length hi = vs.length) : cutV vs lo hi = vs := by
  unfold cutV
  rw [h.1, h.2]
  simp
theorem sl_se {lo hi : Option Expr} {l u : IO} {p2 : Pos} (ha : SE Γ a ia) (hl : SO Γ lo l) (hu : SO Γ hi u) : SE Γ (.Subscript a (.Slice lo hi none p2) pos) (.sl ia l u) := fun X o => PE_weak (pe_slice (SlR.or sl_list (SlR.or sl_tupA sl_str)) (ha X o) (hl X o) (hu X o)) fun σ H Q q => by
  rw [o.K]
  obtain ⟨p, st, B, M, F, env, d, st', r, he, k⟩ := q
  unfold ev at he
  cases e1 : ev Γ.cl ia env st with
  | none =>
    rw [e1] at he
    cases he
  | some xs =>
    obtain ⟨x, st1⟩ := xs
    rw [e1] at he
    cases e2 : eo Γ.cl l env st1 with
    | none =>
      simp only [e2] at he
      cases he
    | some ys =>
      obtain ⟨y, st2⟩ := ys
      simp only [e2] at he
      cases e3 : eo Γ.cl u env st2 with
      | none =>
        simp only [e3] at he
        cases he
      | some zs =>
        obtain ⟨z, st3⟩ := zs
        simp only [e3] at he
        obtain ⟨w, e4, e5⟩ := Option.map_eq_some_iff.mp he
        cases e5
        refine ⟨p, st, B, M, F, env, x, st1, r, e1, fun v B1 H1 x1 r1 p1 => ⟨p, st1, B1, M, F, env, y, st2, r1, e2, fun B2 H2 x2 r2 => ⟨p, st2, B2, M, F, env, z, _, r2, e3, fun B3 H3 x3 r3 => ?_⟩⟩⟩
        have pv := p1.mono (x2.trans x3)
        have xx := (x1.trans x2).trans x3
        cases pv with
        | @lst a xs ds hx rx =>
          cases e4
          refine .inl ⟨a, xs, rfl, Or.inl (Or.inl (r3.bs.b _ _ hx)), fun q hq => ?_⟩
          exact k (.ref q) _ _ (xx.trans (Ex.new (r3.bs.b.free hq))) (r3.new hq) (.lst upd_same ((rx.cut y z).mono (Ex.new (r3.bs.b.free hq))))
        | @tup a xs ds hx rx =>
          cases e4
          refine .inr (.inl ⟨a, xs, rfl, sqt_mono r3.bs.b hx, fun hw => ?_, fun _ q hq => ?_⟩)
          · have rc := rx.cut y z
            rw [cut_whole hw] at rc
            exact k (.ref a) B3 H3 xx r3 (.tup hx rc)
          · exact k (.ref q) _ _ (xx.trans (Ex.new (r3.bs.b.free hq))) (r3.new hq) (.tup (Or.inl (Or.inl upd_same)) ((rx.cut y z).mono (Ex.new (r3.bs.b.free hq))))
        | str s =>
          obtain ⟨hl, rfl⟩ := ite_some (show (if s.length ≤ most then some (PyData.str (cutS s y z)) else none) = some _ from e4)
          exact .inr (.inr ⟨s, rfl, most_line hl, k _ B3 H3 xx r3 (.str _)⟩)
        | _ => cases e4
end
end Ip

set_option Elab.async false
set_option linter.all false
set_option maxRecDepth 100000
set_option maxHeartbeats 4000000
namespace Ip
open PySem L2
section
variable {Γ : Gam} {e a b c : Expr} {es rest : List Expr} {ia ib ic i : IE} {ies : IEs} {pos p0 : Pos} {x : Str}
/-! ### calls of own defs -/
theorem tx_call {K : PySem.W.Frag} {cl : Cl} {σ : L2.St} {H : Hp} {Q : VK} (q : Tx K cl (.call x ies) σ H Q) : tCall (spF K cl x) [] E0 (Tg K cl ies) σ H Q := by
  obtain ⟨p, st, B, M, F, env, d, st', r, he, k⟩ := q
  unfold ev at he
  cases e1 : ag cl ies env st with
  | none =>
    rw [e1] at he
    cases he
  | some ys =>
    obtain ⟨ys, st1⟩ := ys
    rw [e1] at he
    refine ⟨p, st, B, M, F, env, ys, st1, r, e1, fun vs B1 H1 x1 r1 p1 => ?_⟩
    show spF K cl x (vs ++ []) H1 Q E0
    rw [List.append_nil]
    exact ⟨p, st1, B1, uni M F, ys, d, st', r1.call, p1, he, fun v B' H' x2 w pv => k v B' H' (x1.trans x2) (r1.back x2 w) pv⟩
theorem call_se (h : SG Γ (e :: es) ies) (hf : Γ.fs.contains x = true := by rfl) (hg : GlS Γ.sc x := by rfl) (hdb : (x == ("__debug__" : Str)) = false := by decide)
    (he : ∀ env, starEach (e :: es) env = (false, eval e env) :: starEach es env := by intro _; rfl) (hpl : ∀ env, (backTo pos (starEach es env)).any (·.1) = false := by intro _; rfl) :
    SE Γ (.Call (.Name x p0) (e :: es) [] pos) (.call x ies) := fun X o => by
  obtain ⟨fa, fd, ps, k, F, hm, hk, hb, hr⟩ := o.fn x (List.contains_iff_mem.mp hf)
  exact PE_weak (pe_call F hr (o.gl hg) hm hk hb .nil L2.passL (h X o) hdb (he _) (hpl _)) fun σ H Q q => tx_call q
theorem call0_se (hf : Γ.fs.contains x = true := by rfl) (hg : GlS Γ.sc x := by rfl) (hdb : (x == ("__debug__" : Str)) = false := by decide) : SE Γ (.Call (.Name x p0) [] [] pos) (.call x .nil) := fun X o => by
  obtain ⟨fa, fd, ps, k, F, hm, hk, hb, hr⟩ := o.fn x (List.contains_iff_mem.mp hf)
  refine PE_weak (pe_call0 F hr (o.gl hg) hm hk hb .nil L2.passL hdb) fun σ H Q q => ?_
  obtain ⟨p, st, B, M, F, env, ds, st', r, he, k⟩ := tx_call q
  unfold ag at he
  cases he
  exact k [] B H (Ex.refl B) r .nil
/-! ### built-ins of one argument -/
theorem tx_bi {K : PySem.W.Frag} {cl : Cl} {f : Bi} {r : List V → Hp → VK → Prop} {σ : L2.St} {H : Hp} {Q : VK}
    (hr : ∀ {p st B M F env v d z H}, Rel K p st B M F env σ H → Rp K B v d → biD f [d] = some z → ∀ Q : VK, (∀ w B' H', Ex B B' → Rel K p st B' M F env σ H' → Rp K B' w z → Q w H') → r [v] H Q)
    (q : Tx K cl (.bi f (.cons i .nil)) σ H Q) : tCB r (Ta K cl (.cons i .nil)) σ H Q := by
  obtain ⟨p, st, B, M, F, env, d, st', rl, he, k⟩ := q
  unfold ev at he
  cases e1 : ea cl (.cons i .nil) env st with
  | none =>
    rw [e1] at he
    cases he
  | some ys =>
    obtain ⟨ys, st1⟩ := ys
    rw [e1] at he
    obtain ⟨z, e2, e3⟩ := Option.map_eq_some_iff.mp he
    cases e3
    refine ⟨p, st, B, M, F, env, ys, _, rl, e1, fun vs B1 H1 x1 r1 p1 => ?_⟩
    have hl : ys.length = 1 := by
      unfold ea at e1
      split at e1
      · unfold ea at e1
        cases e1
        rfl
      · cases e1
    match ys, hl, p1, e2 with
    | [y], _, .cons py .nil, e2 => exact hr r1 py e2 Q fun w B' H' x2 r2 p2 => k w B' H' (x1.trans x2) r2 p2
theorem len_se (h : SE Γ e i) (hb : Γ.bs.contains "len" = true := by rfl) (hg : GlS Γ.sc "len" := by rfl) (hs : ∀ env, starEach [e] env = (false, eval e env) :: starEach [] env := by intro _; rfl) :
    SE Γ (.Call (.Name "len" p0) [e] [] pos) (.bi .len (.cons i .nil)) := fun X o =>
  PE_weak (pe_callB call_len (o.gl hg) (o.bl _ (List.contains_iff_mem.mp hb)) PySem.boot_len ((sa_cons h sa_nil hs) X o) (by decide) (by decide) (hs _) rfl) fun σ H Q q => by
    refine tx_bi ?_ q
    intro p st B M F env v d z H r pv e2 Q k
    rw [o.K]
    cases pv with
    | @lst a xs ds hx rx =>
      cases e2
      exact ⟨_, xs.length, rfl, .inl ⟨xs, Or.inl (Or.inl (r.bs.b _ _ hx)), rfl⟩, k _ B H (Ex.refl B) r (by rw [rx.length]; exact .int _)⟩
    | @tup a xs ds hx rx =>
      cases e2
      exact ⟨_, xs.length, rfl, .inr ⟨xs, sqt_mono r.bs.b hx, rfl⟩, k _ B H (Ex.refl B) r (by rw [rx.length]; exact .int _)⟩
    | str s =>
      obtain ⟨hl, rfl⟩ := ite_some (show (if s.length ≤ most then some (PyData.int s.length) else none) = some z from e2)
      exact ⟨_, s.length, rfl, ⟨most_line hl, rfl⟩, k _ B H (Ex.refl B) r (.int _)⟩
    | _ => cases e2
theorem int_se (h : SE Γ e i) (hb : Γ.bs.contains "int" = true := by rfl) (hg : GlS Γ.sc "int" := by rfl) (hs : ∀ env, starEach [e] env = (false, eval e env) :: starEach [] env := by intro _; rfl) :
    SE Γ (.Call (.Name "int" p0) [e] [] pos) (.bi .int (.cons i .nil)) := fun X o =>
  PE_weak (pe_callTy call_int1 (o.gl hg) (o.bl _ (List.contains_iff_mem.mp hb)) (by decide +kernel) ((sa_cons h sa_nil hs) X o) (by decide) (by decide) (hs _) rfl) fun σ H Q q => by
    refine tx_bi ?_ q
    intro p st B M F env v d z H r pv e2 Q k
    cases pv with
    | int n =>
      cases e2
      exact .inl ⟨n, rfl, k _ B H (Ex.refl B) r (.int _)⟩
    | bl w =>
      cases e2
      exact .inr ⟨w, rfl, k _ B H (Ex.refl B) r (.int _)⟩
    | _ => cases e2
theorem str_se (h : SE Γ e i) (hb : Γ.bs.contains "str" = true := by rfl) (hg : GlS Γ.sc "str" := by rfl) (hs : ∀ env, starEach [e] env = (false, eval e env) :: starEach [] env := by intro _; rfl) :
    SE Γ (.Call (.Name "str" p0) [e] [] pos) (.bi .str (.cons i .nil)) := fun X o =>
  PE_weak (pe_callTy call_str_int (o.gl hg) (o.bl _ (List.contains_iff_mem.mp hb)) (by decide +kernel) ((sa_cons h sa_nil hs) X o) (by decide) (by decide) (hs _) rfl) fun σ H Q q => by
    refine tx_bi ?_ q
    intro p st B M F env v d z H r pv e2 Q k
    cases pv with
    | int n =>
      obtain ⟨hl, rfl⟩ := ite_some (show (if n.natAbs.log2 < 1920 then some (PyData.str (toString n)) else none) = some z from e2)
      exact ⟨n, rfl, hl, k _ B H (Ex.refl B) r (.str _)⟩
    | _ => cases e2
theorem tuple_se (h : SE Γ e i) (hb : Γ.bs.contains "tuple" = true := by rfl) (hg : GlS Γ.sc "tuple" := by rfl) (hs : ∀ env, starEach [e] env = (false, eval e env) :: starEach [] env := by intro _; rfl) :
    SE Γ (.Call (.Name "tuple" p0) [e] [] pos) (.bi .tuple (.cons i .nil)) := fun X o =>
  PE_weak (pe_callTy call_tuple_of (o.gl hg) (o.bl _ (List.contains_iff_mem.mp hb)) (by decide +kernel) ((sa_cons h sa_nil hs) X o) (by decide) (by decide) (hs _) rfl) fun σ H Q q => by
    refine tx_bi ?_ q
    intro p st B M F env v d z H r pv e2 Q k
    rw [o.K]
    cases pv with
    | @lst a xs ds hx rx =>
      cases e2
      exact ⟨a, xs, rfl, .inl ⟨Or.inl (Or.inl (r.bs.b _ _ hx)), fun l hl => k (.ref l) _ _ (Ex.new (r.bs.b.free hl)) (r.new hl) (.tup (Or.inl (Or.inl upd_same)) (rx.mono (Ex.new (r.bs.b.free hl))))⟩⟩
    | @tup a xs ds hx rx =>
      cases e2
      exact ⟨a, xs, rfl, .inr ⟨sqt_mono r.bs.b hx, k _ B H (Ex.refl B) r (.tup hx rx)⟩⟩
    | _ => cases e2
theorem len_rd {K : PySem.W.Frag} {p : Pa} {st : Pl} {B M F : Hp} {env : List Sl} {σ : L2.St} {H : Hp} {v : V} {d z : D} (r : Rel K p st B M F env σ H) (pv : Rp K B v d) (e2 : biD .len [d] = some z) : ∃ n : Nat, LenV K v H n ∧ z = .int n := by
  cases pv with
  | @lst a xs ds hx rx =>
    cases e2
    exact ⟨xs.length, .inl ⟨xs, Or.inl (Or.inl (r.bs.b _ _ hx)), rfl⟩, by rw [rx.length]⟩
  | @tup a xs ds hx rx =>
    cases e2
    exact ⟨xs.length, .inr ⟨xs, sqt_mono r.bs.b hx, rfl⟩, by rw [rx.length]⟩
  | str s =>
    obtain ⟨hl, rfl⟩ := ite_some (show (if s.length ≤ most then some (PyData.int s.length) else none) = some z from e2)
    exact ⟨s.length, ⟨most_line hl, rfl⟩, rfl⟩
  | _ => cases e2
theorem olen_se (n : Nat) {y : Str} {p1 : Pos} (hN : Γ.N[n]? = some y := by rfl) (hv : Vis Γ.sc y := by first | exact Or.inl rfl | exact Or.inr (Or.inl rfl) | exact Or.inr (Or.inr rfl)) (hd : (y == ("__debug__" : Str)) = false := by decide) (hcd : (y == ("__classdict__" : Str)) = false := by decide)
    (hb : Γ.bs.contains "len" = true := by rfl) (hg : GlS Γ.sc "len" := by rfl) (hs : ∀ env, starEach [.Name y p0] env = (false, eval (.Name y p0) env) :: starEach [] env := by intro _; rfl) :
    SE Γ (.Call (.Name "len" p1) [.Name y p0] [] pos) (.olen n) := fun X o =>
  PE_weak (pe_callB call_len (o.gl hg) (o.bl _ (List.contains_iff_mem.mp hb)) PySem.boot_len (pa_cons (pe_var (i := n) (by rw [o.N]; exact hN) (by rw [o.sc]; exact hv) hd hcd) pa_nil (hs _)) (by decide) (by decide) (hs _) rfl) fun σ H Q q => by
    obtain ⟨p, st, B, M, F, env, d, st', r, he, k⟩ := q
    unfold ev at he
    split at he
    · rename_i ds e1
      cases he
      obtain ⟨ov, h1, h2⟩ := r.en.at_ n _ e1
      cases ov with
      | none => exact h2.elim
      | some v =>
        cases v with
        | ref a =>
          obtain ⟨xs, h3, h4⟩ := h2
          exact ⟨_, h1, _, xs.length, rfl, .inl ⟨xs, Or.inl (Or.inl (r.m _ _ h3)), rfl⟩, k _ B H (Ex.refl B) r (by rw [h4.length]; exact .int _)⟩
        | _ => exact h2.elim
    · rename_i d1 e1
      obtain ⟨z, e2, e3⟩ := Option.map_eq_some_iff.mp he
      cases e3
      obtain ⟨ov, h1, h2⟩ := r.en.at_ n _ e1
      cases ov with
      | none => exact h2.elim
      | some v =>
        obtain ⟨m, h3, rfl⟩ := len_rd r h2 e2
        rw [o.K]
        exact ⟨v, h1, v, m, rfl, h3, k _ B H (Ex.refl B) r (.int _)⟩
    · cases he
end
/-! ### what is walked -/
theorem PI_or {X : Cx} {tg iter : Expr} {w1 w2 : TI} (h1 : PI X tg iter w1) (h2 : PI X tg iter w2) : PI X tg iter (fun σ H R => w1 σ H R ∨ w2 σ H R) := ⟨fun pins s σ H R I q => by
  rcases q with q | q
  · exact h1.run pins s σ H R I q
  · exact h2.run pins s σ H R I q⟩
def Ti (K : PySem.W.Frag) (cl : Cl) : IT → TI
  | .seq e => fun σ H R => iList K (Tx K cl e) σ H R ∨ iTup K (Tx K cl e) σ H R
  | .rng1 e => iRng1 (Ta K cl (.cons e .nil))
  | .rng2 a b => iRng2 (Ta K cl (.cons a (.cons b .nil)))
def SI (Γ : Gam) (e : Expr) (i : IT) : Prop := ∀ X tg, Okx Γ X → PI X tg e (Ti Γ.K Γ.cl i)
section
variable {Γ : Gam} {e a b : Expr} {ia ib i : IE} {pos p0 : Pos}
theorem si_seq (h : SE Γ e i) : SI Γ e (.seq i) := fun X tg o => by
  have h1 := PI_or (pi_list (tg := tg) (h X o)) (pi_tup (tg := tg) (h X o))
  rw [o.K] at h1
  exact h1
theorem si_rng1 (h : SE Γ e i) (hb : Γ.bs.contains "range" = true := by rfl) (hg : GlS Γ.sc "range" := by rfl) (hs : ∀ env, starEach [e] env = [(false, eval e env)] := by intro _; rfl) : SI Γ (.Call (.Name "range" p0) [e] [] pos) (.rng1 i) := fun X tg o =>
  pi_range1 (o.gl hg) (o.bl _ (List.contains_iff_mem.mp hb)) ((sa_cons h sa_nil hs) X o) (hs _)
theorem si_rng2 (ha : SE Γ a ia) (hc : SE Γ b ib) (hb : Γ.bs.contains "range" = true := by rfl) (hg : GlS Γ.sc "range" := by rfl) (hs : ∀ env, starEach [a, b] env = [(false, eval a env), (false, eval b env)] := by intro _; rfl)
    (hs1 : ∀ env, starEach [a, b] env = (false, eval a env) :: starEach [b] env := by intro _; rfl) (hs2 : ∀ env, starEach [b] env = [(false, eval b env)] := by intro _; rfl) : SI Γ (.Call (.Name "range" p0) [a, b] [] pos) (.rng2 ia ib) := fun X tg o =>
  pi_range2 (o.gl hg) (o.bl _ (List.contains_iff_mem.mp hb)) ((sa_cons ha (sa_cons hc sa_nil hs2) hs1) X o) (hs _) (hs2 _)
end
section
variable {K : PySem.W.Frag} {cl : Cl} {p : Pa} {st st1 : Pl} {B M F : Hp} {env : List Sl} {σ : L2.St} {H : Hp} {ds : List D} {it : IT}
theorem itD_lst {d : D} {ds : List D} (h : itD d = some ds) : d = .list ds ∨ d = .tuple ds := by
  cases d with
  | list xs =>
    cases h
    exact .inl rfl
  | tuple xs =>
    cases h
    exact .inr rfl
  | _ => cases h
theorem rng_get {lo hi : Int} {ds : List D} (h : rngD lo hi = some ds) : (-(2 ^ 62) ≤ lo ∧ lo < 2 ^ 62 ∧ -(2 ^ 62) ≤ hi ∧ hi < 2 ^ 62) ∧ ds.length = (hi - lo).toNat ∧ ∀ i, i < (hi - lo).toNat → ds[i]? = some (.int (lo + (i : Int))) := by
  obtain ⟨hb, rfl⟩ := ite_some h
  refine ⟨hb, by simp, fun i hi => ?_⟩
  simp [hi]
/-- what a walk over it comes to: a rule for a loop, whatever is walked -/
theorem walk_for {D : Ends} {g : TG} {tb : TS} (r : Rel K p st B M F env σ H) (he : ei cl it env st = some (ds, st1)) (P : Hp → Nat → Hp → L2.St → Hp → Prop)
    (h0 : ∀ B1 H1, Ex B B1 → Rel K p st1 B1 M F env σ H1 → P B1 0 B1 σ H1) (hex : ∀ B1 i B' σ' H', P B1 i B' σ' H' → Ex B1 B' ∧ Ex B' H')
    (hs : ∀ B1 i d v B' σ' H', Ex B B1 → ds[i]? = some d → Rp K B1 v d → P B1 i B' σ' H' → g v σ' H' fun σ2 H2 => tb { D with nx := fun s h => ∃ B2, P B1 (i + 1) B2 s h, ct := fun s h => ∃ B2, P B1 (i + 1) B2 s h, bk := D.nx } σ2 H2)
    (hd : ∀ B1 B' σ' H', P B1 ds.length B' σ' H' → D.nx σ' H') : tFor (Ti K cl it) g tb D σ H := by
  cases it with
  | seq e =>
    unfold ei at he
    cases e1 : ev cl e env st with
    | none =>
      rw [e1] at he
      cases he
    | some xs =>
      obtain ⟨x, st2⟩ := xs
      rw [e1] at he
      obtain ⟨ys, e2, e3⟩ := Option.map_eq_some_iff.mp he
      cases e3
      rcases itD_lst e2 with rfl | rfl
      · refine .inl ⟨p, st, B, M, F, env, _, _, r, e1, fun v B1 H1 x1 r1 p1 => ?_⟩
        cases p1 with
        | @lst a xs _ hx rx =>
          refine ⟨a, rfl, ⟨xs, Or.inl (Or.inl (r1.bs.b _ _ hx))⟩, ?_⟩
          refine for_list (xs := xs) (fun i s h => ∃ B', P B1 i B' s h) ⟨B1, h0 B1 H1 x1 r1⟩ (fun i s h _ q => ?_) (fun i v s h hi q => ?_) (fun s h q => ?_)
          · obtain ⟨B', q⟩ := q
            obtain ⟨y1, y2⟩ := hex _ _ _ _ _ q
            exact Or.inl (Or.inl (y2 _ _ (y1 _ _ hx)))
          · obtain ⟨B', q⟩ := q
            obtain ⟨d, h1, h2⟩ := rx.getV hi
            exact hs B1 i d v B' s h x1 h1 h2 q
          · obtain ⟨B', q⟩ := q
            rw [rx.length] at q
            exact hd B1 B' s h q
      · refine .inr ⟨p, st, B, M, F, env, _, _, r, e1, fun v B1 H1 x1 r1 p1 => ?_⟩
        cases p1 with
        | @tup a xs _ hx rx =>
          refine ⟨a, rfl, ⟨xs, sqt_mono r1.bs.b hx⟩, ?_⟩
          refine for_tup (xs := xs) (fun i s h => ∃ B', P B1 i B' s h) ⟨B1, h0 B1 H1 x1 r1⟩ (fun i s h _ q => ?_) (fun i v s h hi q => ?_) (fun s h q => ?_)
          · obtain ⟨B', q⟩ := q
            obtain ⟨y1, y2⟩ := hex _ _ _ _ _ q
            exact sqt_mono (y1.trans y2) hx
          · obtain ⟨B', q⟩ := q
            obtain ⟨d, h1, h2⟩ := rx.getV hi
            exact hs B1 i d v B' s h x1 h1 h2 q
          · obtain ⟨B', q⟩ := q
            rw [rx.length] at q
            exact hd B1 B' s h q
  | rng1 e =>
    unfold ei at he
    split at he
    · rename_i n st2 e1
      obtain ⟨ys, e2, e3⟩ := Option.map_eq_some_iff.mp he
      cases e3
      obtain ⟨⟨h1, h2, h3, h4⟩, hl, hg⟩ := rng_get e2
      refine ⟨p, st, B, M, F, env, [.int n], _, r, by unfold ea; rw [e1]; rfl, fun vs B1 H1 x1 r1 p1 => ?_⟩
      match vs, p1 with
      | [_], .cons (.int _) .nil =>
        refine ⟨n, rfl, h3, h4, ?_⟩
        have e0 : (n - 0).toNat = n.toNat := by rw [Int.sub_zero]
        rw [e0] at hl hg
        refine for_range (lo := 0) (n := n.toNat) (fun i s h => ∃ B', P B1 i B' s h) ⟨B1, h0 B1 H1 x1 r1⟩ (fun i s h hi q => ?_) (fun s h q => ?_)
        · obtain ⟨B', q⟩ := q
          exact hs B1 i _ _ B' s h x1 (hg i hi) (.int _) q
        · obtain ⟨B', q⟩ := q
          rw [← hl] at q
          exact hd B1 B' s h q
    · cases he
  | rng2 a b =>
    unfold ei at he
    split at he
    · rename_i lo st2 e1
      split at he
      · rename_i hi st3 e2
        obtain ⟨ys, e3, e4⟩ := Option.map_eq_some_iff.mp he
        cases e4
        obtain ⟨hbd, hl, hg⟩ := rng_get e3
        refine ⟨p, st, B, M, F, env, [.int lo, .int hi], _, r, by unfold ea; rw [e1]; unfold ea; simp only [e2]; rfl, fun vs B1 H1 x1 r1 p1 => ?_⟩
        match vs, p1 with
        | [_, _], .cons (.int _) (.cons (.int _) .nil) =>
          refine ⟨lo, hi, rfl, hbd, ?_⟩
          refine for_range (lo := lo) (n := (hi - lo).toNat) (fun i s h => ∃ B', P B1 i B' s h) ⟨B1, h0 B1 H1 x1 r1⟩ (fun i s h hi q => ?_) (fun s h q => ?_)
          · obtain ⟨B', q⟩ := q
            exact hs B1 i _ _ B' s h x1 (hg i hi) (.int _) q
          · obtain ⟨B', q⟩ := q
            rw [← hl] at q
            exact hd B1 B' s h q
      · cases he
    · cases he
/-- the same of a comprehension -/
theorem walk_lc {Q : VK} {j : Nat} {tt : TT} {te : TE} (r : Rel K p st B M F env σ H) (he : ei cl it env st = some (ds, st1)) (P : Hp → Addr → Nat → Hp → Hp → Prop)
    (h0 : ∀ B1 H1 Dl, Ex B B1 → Rel K p st1 B1 M F env σ H1 → H1 Dl = none → P B1 Dl 0 B1 (upd H1 Dl (.lst []))) (hex : ∀ B1 Dl i B' H', P B1 Dl i B' H' → Ex B1 B' ∧ Ex B' H')
    (hs : ∀ B1 Dl i d v B' H', Ex B B1 → ds[i]? = some d → Rp K B1 v d → P B1 Dl i B' H' → tt (σ.set j (some v)) H' fun b H3 => if b = true then te (σ.set j (some v)) H3 fun y H4 => ∃ acc, H4 Dl = some (.lst acc) ∧ acc.length < sizeLine ∧ ∃ B2, P B1 Dl (i + 1) B2 (upd H4 Dl (.lst (acc ++ [y]))) else ∃ B2, P B1 Dl (i + 1) B2 H3)
    (hd : ∀ B1 Dl B' H', Ex B B1 → P B1 Dl ds.length B' H' → Q (.ref Dl) H') : tLc (Ti K cl it) (gName j) tt te [j] σ H Q := by
  have hw : ∀ v : V, wipe ((wipe σ [j]).set j (some v)) [j] = wipe σ [j] := fun v => by simp [wipe]
  have hw2 : ∀ v : V, (wipe σ [j]).set j (some v) = σ.set j (some v) := fun v => by simp [wipe]
  have hst : ∀ B1 Dl i d v B' H', Ex B B1 → ds[i]? = some d → Rp K B1 v d → P B1 Dl i B' H' → gName j v (wipe σ [j]) H' fun σ2 H2 => wipe σ2 [j] = wipe σ [j] ∧ tt σ2 H2 fun b H3 =>
      if b = true then te σ2 H3 fun y H4 => ∃ acc, H4 Dl = some (.lst acc) ∧ acc.length < sizeLine ∧ ∃ B2, P B1 Dl (i + 1) B2 (upd H4 Dl (.lst (acc ++ [y]))) else ∃ B2, P B1 Dl (i + 1) B2 H3 := fun B1 Dl i d v B' H' x1 hi pv q => by
    show wipe ((wipe σ [j]).set j (some v)) [j] = wipe σ [j] ∧ _
    refine ⟨hw v, ?_⟩
    rw [hw2 v]
    exact hs B1 Dl i d v B' H' x1 hi pv q
  cases it with
  | seq e =>
    unfold ei at he
    cases e1 : ev cl e env st with
    | none =>
      rw [e1] at he
      cases he
    | some xs =>
      obtain ⟨x, st2⟩ := xs
      rw [e1] at he
      obtain ⟨ys, e2, e3⟩ := Option.map_eq_some_iff.mp he
      cases e3
      rcases itD_lst e2 with rfl | rfl
      · refine .inl ⟨p, st, B, M, F, env, _, _, r, e1, fun v B1 H1 x1 r1 p1 => ?_⟩
        cases p1 with
        | @lst a xs _ hx rx =>
          refine ⟨a, rfl, ⟨xs, Or.inl (Or.inl (r1.bs.b _ _ hx))⟩, fun Dl hD => ?_⟩
          refine lc_list (xs := xs) (fun i h => ∃ B', P B1 Dl i B' h) ⟨B1, h0 B1 H1 Dl x1 r1 hD⟩ (fun i h _ q => ?_) (fun i v h hi q => ?_) (fun h q => ?_)
          · obtain ⟨B', q⟩ := q
            obtain ⟨y1, y2⟩ := hex _ _ _ _ _ q
            exact Or.inl (Or.inl (y2 _ _ (y1 _ _ hx)))
          · obtain ⟨B', q⟩ := q
            obtain ⟨d, h1, h2⟩ := rx.getV hi
            exact hst B1 Dl i d v B' h x1 h1 h2 q
          · obtain ⟨B', q⟩ := q
            rw [rx.length] at q
            exact hd B1 Dl B' h x1 q
      · refine .inr ⟨p, st, B, M, F, env, _, _, r, e1, fun v B1 H1 x1 r1 p1 => ?_⟩
        cases p1 with
        | @tup a xs _ hx rx =>
          refine ⟨a, rfl, ⟨xs, sqt_mono r1.bs.b hx⟩, fun Dl hD => ?_⟩
          refine lc_tup (xs := xs) (fun i h => ∃ B', P B1 Dl i B' h) ⟨B1, h0 B1 H1 Dl x1 r1 hD⟩ (fun i h _ q => ?_) (fun i v h hi q => ?_) (fun h q => ?_)
          · obtain ⟨B', q⟩ := q
            obtain ⟨y1, y2⟩ := hex _ _ _ _ _ q
            exact sqt_mono (y1.trans y2) hx
          · obtain ⟨B', q⟩ := q
            obtain ⟨d, h1, h2⟩ := rx.getV hi
            exact hst B1 Dl i d v B' h x1 h1 h2 q
          · obtain ⟨B', q⟩ := q
            rw [rx.length] at q
            exact hd B1 Dl B' h x1 q
  | rng1 e =>
    unfold ei at he
    split at he
    · rename_i n st2 e1
      obtain ⟨ys, e2, e3⟩ := Option.map_eq_some_iff.mp he
      cases e3
      obtain ⟨⟨h1, h2, h3, h4⟩, hl, hg⟩ := rng_get e2
      refine ⟨p, st, B, M, F, env, [.int n], _, r, by unfold ea; rw [e1]; rfl, fun vs B1 H1 x1 r1 p1 => ?_⟩
      match vs, p1 with
      | [_], .cons (.int _) .nil =>
        refine ⟨n, rfl, h3, h4, fun Dl hD => ?_⟩
        have e0 : (n - 0).toNat = n.toNat := by rw [Int.sub_zero]
        rw [e0] at hl hg
        refine lc_range (lo := 0) (n := n.toNat) (fun i h => ∃ B', P B1 Dl i B' h) ⟨B1, h0 B1 H1 Dl x1 r1 hD⟩ (fun i h hi q => ?_) (fun h q => ?_)
        · obtain ⟨B', q⟩ := q
          exact hst B1 Dl i _ _ B' h x1 (hg i hi) (.int _) q
        · obtain ⟨B', q⟩ := q
          rw [← hl] at q
          exact hd B1 Dl B' h x1 q
    · cases he
  | rng2 a b =>
    unfold ei at he
    split at he
    · rename_i lo st2 e1
      split at he
      · rename_i hi st3 e2
        obtain ⟨ys, e3, e4⟩ := Option.map_eq_some_iff.mp he
        cases e4
        obtain ⟨hbd, hl, hg⟩ := rng_get e3
        refine ⟨p, st, B, M, F, env, [.int lo, .int hi], _, r, by unfold ea; rw [e1]; unfold ea; simp only [e2]; rfl, fun vs B1 H1 x1 r1 p1 => ?_⟩
        match vs, p1 with
        | [_, _], .cons (.int _) (.cons (.int _) .nil) =>
          refine ⟨lo, hi, rfl, hbd, fun Dl hD => ?_⟩
          refine lc_range (lo := lo) (n := (hi - lo).toNat) (fun i h => ∃ B', P B1 Dl i B' h) ⟨B1, h0 B1 H1 Dl x1 r1 hD⟩ (fun i h hi q => ?_) (fun h q => ?_)
          · obtain ⟨B', q⟩ := q
            exact hst B1 Dl i _ _ B' h x1 (hg i hi) (.int _) q
          · obtain ⟨B', q⟩ := q
            rw [← hl] at q
            exact hd B1 Dl B' h x1 q
      · cases he
    · cases he
end
end Ip

set_option Elab.async false
set_option linter.all false
set_option maxRecDepth 100000
set_option maxHeartbeats 4000000
namespace Ip
open PySem L2
/-- an address that none of the parts knows -/
structure Fr (B M F : Hp) (p : Pa) (a : Addr) : Prop where
  b : B a = none
  m : M a = none
  f : F a = none
  p : a ≠ p
section
variable {K : PySem.W.Frag} {p : Pa} {st st' : Pl} {B B' M F : Hp} {env env' : List Sl} {σ σ' : L2.St} {H H' : Hp} {a : Addr} {o : HO}
theorem Rel.fr (r : Rel K p st B M F env σ H) (h : H a = none) : Fr B M F p a := ⟨r.bs.b.free h, r.m.free h, r.bs.f.free h, r.bs.pn h⟩
/-- such an address may change -/
theorem Rel.put (r : Rel K p st B M F env σ H) (f : Fr B M F p a) : Rel K p st B M F env σ (upd H a o) where
  bs := {
    b := r.bs.b.right f.b
    f := r.bs.f.right f.f
    d := r.bs.d
    pf := r.bs.pf
    pb := r.bs.pb
    pl := by
      obtain ⟨h1, h2⟩ := r.bs.pl
      exact ⟨by rw [upd_ne (fun e => f.p e.symm)]; exact h1, h2⟩ }
  m := r.m.right f.m
  md := r.md
  en := r.en
theorem SlR.up (f : M a = none) : ∀ {s : Sl} {w : Option V}, SlR K p B M s w → SlR K p B (upd M a o) s w
  | .no, _, _ => True.intro
  | .im _, some _, h => h
  | .im _, none, h => h
  | .ow _, some (.ref _), h => by
    obtain ⟨xs, h1, h2⟩ := h
    exact ⟨xs, by rw [upd_ne (ne_of_none h1 f)]; exact h1, h2⟩
  | .ow _, some .non, h | .ow _, some (.bl _), h | .ow _, some (.int _), h | .ow _, some (.str _), h | .ow _, some (.byt _), h | .ow _, some (.flt _), h | .ow _, some (.ty _), h | .ow _, none, h => h
  | .pl, some (.ref _), h => h
  | .pl, some .non, h | .pl, some (.bl _), h | .pl, some (.int _), h | .pl, some (.str _), h | .pl, some (.byt _), h | .pl, some (.flt _), h | .pl, some (.ty _), h | .pl, none, h => h
theorem EnR.up (f : M a = none) (h : EnR K p B M env σ) : EnR K p B (upd M a o) env σ := ⟨h.len, fun i s hi => by
  obtain ⟨w, h1, h2⟩ := h.at_ i s hi
  exact ⟨w, h1, h2.up f⟩, h.ap⟩
/-- such an object taken among the own ones -/
theorem Rel.take (r : Rel K p st B M F env σ H) (f : Fr B M F p a) (ha : H a = some o) : Rel K p st B (upd M a o) F env σ H where
  bs := r.bs
  m := fun b u h => by
    by_cases hb : b = a
    · subst hb
      rw [upd_same] at h
      rw [← h]
      exact ha
    · rw [upd_ne hb] at h
      exact r.m b u h
  md := fun b u h => by
    by_cases hb : b = a
    · subst hb
      exact ⟨f.b, f.f, f.p⟩
    · rw [upd_ne hb] at h
      exact r.md b u h
  en := r.en.up f.m
theorem EnR.set (h : EnR K p B M env σ) {v : V} {d : D} (pv : Rp K B v d) (j : Nat) : EnR K p B M (env.set j (.im d)) (σ.set j (some v)) where
  len := by rw [List.length_set, List.length_set]; exact h.len
  at_ := fun i s hi => by
    by_cases e : j = i
    · subst e
      have hl : j < env.length := by
        have := (List.getElem?_eq_some_iff.mp hi).1
        rw [List.length_set] at this
        exact this
      rw [List.getElem?_set_self hl] at hi
      cases hi
      exact ⟨some v, List.getElem?_set_self (by rw [← h.len]; exact hl), pv⟩
    · rw [List.getElem?_set_ne e] at hi
      obtain ⟨w, h1, h2⟩ := h.at_ i s hi
      exact ⟨w, by rw [List.getElem?_set_ne e]; exact h1, h2⟩
  ap := fun i k ds es b hi hk si sk => by
    have hne : ∀ {i : Nat} {ds : List D}, (env.set j (.im d))[i]? = some (.ow ds) → j ≠ i := fun {i ds} hi e => by
      subst e
      have hl : j < env.length := by
        have := (List.getElem?_eq_some_iff.mp hi).1
        rw [List.length_set] at this
        exact this
      rw [List.getElem?_set_self hl] at hi
      cases hi
    have n1 := hne hi
    have n2 := hne hk
    rw [List.getElem?_set_ne n1] at hi si
    rw [List.getElem?_set_ne n2] at hk sk
    exact h.ap i k ds es b hi hk si sk
theorem Rel.set (r : Rel K p st B M F env σ H) {v : V} {d : D} (pv : Rp K B v d) (j : Nat) : Rel K p st B M F (env.set j (.im d)) (σ.set j (some v)) H := ⟨r.bs, r.m, r.md, r.en.set pv j⟩
/-- behind a block that had one own object more, and names of its own -/
theorem Rel.rest (r : Rel K p st B M F env σ H) (f : M a = none) (x : Ex B B') (r' : Rel K p st' B' (upd M a o) F env' σ' H') : Rel K p st' B' M F env σ H' where
  bs := r'.bs
  m := fun b u h => r'.m b u (by rw [upd_ne (ne_of_none h f)]; exact h)
  md := fun b u h => ⟨(r'.md b u (by rw [upd_ne (ne_of_none h f)]; exact h)).1, (r.md b u h).2⟩
  en := r.en.mono x
theorem Rel.restFr (f : Fr B M F p a) (r' : Rel K p st' B' (upd M a o) F env' σ' H') : Fr B' M F p a ∧ H' a = some o := ⟨⟨(r'.md a o upd_same).1, f.m, f.f, f.p⟩, r'.m a o upd_same⟩
end
/-! ### comprehensions -/
section
variable {Γ : Gam} {e : Expr} {i : IE} {pos : Pos}
theorem sts_nil : STs Γ [] .nil := fun X o => PTs_weak pts_nil fun σ H Q q => by
  obtain ⟨p, st, B, M, F, env, b, st', r, he, k⟩ := q
  unfold et at he
  cases he
  exact k B H (Ex.refl B) r
theorem sts_one (h : ST Γ e i) : STs Γ [e] (.cons i .nil) := fun X o => PTs_weak (pts_one (h X o)) fun σ H Q q => by
  obtain ⟨p, st, B, M, F, env, b, st', r, he, k⟩ := q
  unfold et at he
  split at he
  · rename_i st1 e1
    unfold et at he
    cases he
    exact ⟨p, st, B, M, F, env, true, _, r, e1, k⟩
  · rename_i st1 e1
    cases he
    exact ⟨p, st, B, M, F, env, false, _, r, e1, k⟩
  · cases he
def lcF (cl : Cl) (j : Nat) (cs : IEs) (e : IE) (env : List Sl) : D → Pl → Option (Option D × Pl) := fun d st => match et cl cs (env.set j (.im d)) st with
        | some (true, st2) => (match ev cl e (env.set j (.im d)) st2 with
          | some (y, st3) => some (some y, st3)
          | none => none)
        | some (false, st2) => some (none, st2)
        | none => none
theorem ev_lc {cl : Cl} {j : Nat} {it : IT} {cs : IEs} {e : IE} {env : List Sl} {st : Pl} {d : D} {st4 : Pl} (h : ev cl (.lc j it cs e) env st = some (d, st4)) :
    ∃ ds st1 ys, ei cl it env st = some (ds, st1) ∧ ds.length ≤ most ∧ lcG (lcF cl j cs e env) ds st1 = some (ys, st4) ∧ d = .list ys := by
  unfold ev at h
  split at h
  · rename_i ds st1 e1
    obtain ⟨hl, h⟩ : ds.length ≤ most ∧ _ := by
      by_cases hl : ds.length ≤ most
      · rw [if_pos hl] at h
        exact ⟨hl, h⟩
      · rw [if_neg hl] at h
        cases h
    split at h
    · rename_i ys st5 e2
      cases h
      exact ⟨ds, st1, ys, e1, hl, e2, rfl⟩
    · cases h
  · cases h
theorem lcG_cons {f : D → Pl → Option (Option D × Pl)} {d : D} {ds : List D} {st : Pl} {ys : List D} {st4 : Pl} (h : lcG f (d :: ds) st = some (ys, st4)) :
    (∃ st1, f d st = some (none, st1) ∧ lcG f ds st1 = some (ys, st4)) ∨ (∃ y st1 zs, f d st = some (some y, st1) ∧ lcG f ds st1 = some (zs, st4) ∧ ys = y :: zs) := by
  unfold lcG at h
  split at h
  · rename_i st1 e1
    exact .inl ⟨st1, e1, h⟩
  · rename_i y st1 e1
    split at h
    · rename_i zs st2 e2
      cases h
      exact .inr ⟨y, st1, zs, e1, e2, rfl⟩
    · cases h
  · cases h
theorem lc_read {K : PySem.W.Frag} {cl : Cl} {j : Nat} {it : IT} {cs : IEs} {ie : IE} {σ : L2.St} {H : Hp} {Q : VK} (q : Tf K cl (.lc j it cs ie) σ H Q) : tLc (Ti K cl it) (gName j) (Ts K cl cs) (Tx K cl ie) [j] σ H Q := by
  obtain ⟨p, st, B, M, F, env, ds, st', r, he, k⟩ := q
  obtain ⟨dz, st1, ys, e1, hl, e2, e3⟩ := ev_lc he
  cases e3
  refine walk_lc r e1 (fun B1 Dl n B' H' => Ex B1 B' ∧ Ex B' H' ∧ Ex B B' ∧ ∃ sti acc zs rest, Rel K p sti B' M F env σ H' ∧ H' Dl = some (.lst acc) ∧ RpA K B' acc zs ∧ Fr B' M F p Dl ∧ zs.length ≤ n ∧ lcG (lcF cl j cs ie env) (dz.drop n) sti = some (rest, st') ∧ zs ++ rest = ds)
    (fun B1 H1 Dl x1 r1 hD => ?_) (fun B1 Dl n B' H' q => ⟨q.1, q.2.1⟩) (fun B1 Dl n d v B' H' x1 hd pv q => ?_) (fun B1 Dl B' H' x1 q => ?_)
  · have f := r1.fr hD
    exact ⟨Ex.refl B1, (r1.put f).bs.b, x1, st1, [], [], ds, r1.put f, upd_same, .nil, f, Nat.le_refl _, e2, rfl⟩
  · obtain ⟨x2, x3, x4, sti, acc, zs, rest, r2, hacc, racc, f, hz, e4, e5⟩ := q
    have hdr : dz.drop n = d :: dz.drop (n + 1) := List.drop_eq_getElem_cons (by
        exact (List.getElem?_eq_some_iff.mp hd).1) |>.trans (by rw [(List.getElem?_eq_some_iff.mp hd).2])
    have hn : n < dz.length := (List.getElem?_eq_some_iff.mp hd).1
    rw [hdr] at e4
    have r3 := (r2.take f hacc).set (pv.mono x2) j
    have key : ∀ (b : Bool) (st2 : Pl), et cl cs (env.set j (.im d)) sti = some (b, st2) → (b = false → lcG (lcF cl j cs ie env) (dz.drop (n + 1)) st2 = some (rest, st')) →
        (b = true → ∃ y st3 zs', ev cl ie (env.set j (.im d)) st2 = some (y, st3) ∧ lcG (lcF cl j cs ie env) (dz.drop (n + 1)) st3 = some (zs', st') ∧ rest = y :: zs') → Ts K cl cs (σ.set j (some v)) H' fun b H3 => if b = true then Tx K cl ie (σ.set j (some v)) H3 fun y H4 => ∃ acc, H4 Dl = some (.lst acc) ∧ acc.length < sizeLine ∧ ∃ B2, (Ex B1 B2 ∧ Ex B2 (upd H4 Dl (.lst (acc ++ [y]))) ∧ Ex B B2 ∧ ∃ sti acc' zs rest, Rel K p sti B2 M F env σ (upd H4 Dl (.lst (acc ++ [y]))) ∧ (upd H4 Dl (.lst (acc ++ [y]))) Dl = some (.lst acc') ∧ RpA K B2 acc' zs ∧ Fr B2 M F p Dl ∧ zs.length ≤ n + 1 ∧ lcG (lcF cl j cs ie env) (dz.drop (n + 1)) sti = some (rest, st') ∧ zs ++ rest = ds) else ∃ B2, (Ex B1 B2 ∧ Ex B2 H3 ∧ Ex B B2 ∧ ∃ sti acc zs rest, Rel K p sti B2 M F env σ H3 ∧ H3 Dl = some (.lst acc) ∧ RpA K B2 acc zs ∧ Fr B2 M F p Dl ∧ zs.length ≤ n + 1 ∧ lcG (lcF cl j cs ie env) (dz.drop (n + 1)) sti = some (rest, st') ∧ zs ++ rest = ds) := fun b st2 e6 h0 h1 => by
      refine ⟨p, sti, B', upd M Dl (.lst acc), F, env.set j (.im d), b, st2, r3, e6, fun B3 H3 x5 r4 => ?_⟩
      cases b with
      | false =>
        refine iteF ⟨B3, x2.trans x5, r4.bs.b, x4.trans x5, st2, acc, zs, rest, r2.rest f.m x5 r4, (Rel.restFr f r4).2, racc.mono x5, (Rel.restFr f r4).1, by omega, h0 rfl, e5⟩
      | true =>
        obtain ⟨y, st3, zs', e7, e8, e9⟩ := h1 rfl
        refine iteT ⟨p, st2, B3, upd M Dl (.lst acc), F, env.set j (.im d), y, st3, r4, e7, fun w B4 H4 x6 r5 pw => ?_⟩
        have f4 := Rel.restFr f r5
        have r6 := (r2.rest f.m (x5.trans x6) r5).put (o := .lst (acc ++ [w])) f4.1
        refine ⟨acc, f4.2, most_lt (by rw [racc.length]; omega), B4, (x2.trans x5).trans x6, r6.bs.b, (x4.trans x5).trans x6, st3, acc ++ [w], zs ++ [y], zs', r6, upd_same, (racc.mono (x5.trans x6)).append (.one pw), f4.1, by rw [List.length_append]; show zs.length + 1 ≤ n + 1; omega, e8, by rw [List.append_assoc, ← e5, e9]; rfl⟩
    rcases lcG_cons e4 with ⟨st3, e6, e7⟩ | ⟨y, st3, zs', e6, e7, e8⟩
    · unfold lcF at e6
      split at e6
      · split at e6 <;> cases e6
      · rename_i st2 e9
        cases e6
        exact key false _ e9 (fun _ => e7) (fun z => nomatch z)
      · cases e6
    · unfold lcF at e6
      split at e6
      · rename_i st2 e9
        split at e6
        · rename_i y2 st5 e10
          cases e6
          exact key true _ e9 (fun z => nomatch z) (fun _ => ⟨_, _, _, e10, e7, e8⟩)
        · cases e6
      · cases e6
      · cases e6
  · obtain ⟨x2, x3, x4, sti, acc, zs, rest, r2, hacc, racc, f, hz, e4, e5⟩ := q
    rw [List.drop_length] at e4
    unfold lcG at e4
    cases e4
    rw [List.append_nil] at e5
    subst e5
    exact k Dl acc B' H' x4 f.b f.m f.f f.p hacc racc r2
theorem lc_sf {elt iter : Expr} {ifs : List Expr} {scope : Scope} {x : Str} {px : Pos} {it : IT} {cs : IEs} {ie : IE} (j : Nat) (hi : SI Γ iter it) (hc : STs (Γ.blk scope) ifs cs) (he : SE (Γ.blk scope) elt ie)
    (hb : blkC Γ.N Γ.sc scope [(x, j)] = true := by rfl) (hj : Γ.N[j]? = some x := by rfl) (hlx : (relS scope Γ.sc).names.lookup x = some .local := by rfl)
    (hs : ∀ env y, foldedSetIterable iter env y = pure y := by intro _ _; rfl) : SF Γ (.ListComp elt [⟨.Name x px, iter, ifs, 0⟩] scope pos) (.lc j it cs ie) := fun X o => by
  refine PE_weak (pe_lc (own := [(x, j)]) (g := gName j) (tt := Ts Γ.K Γ.cl cs) (te := Tx Γ.K Γ.cl ie) o.calm (by rw [o.N]; exact o.nd) (hi X _ o) (blkOk_by (by rw [o.N, o.sc]; exact hb))
    (fun s H C cl fp => ?_) (fun s H C cl fp => hc _ (o.blk scope s H C cl fp)) (fun s H C cl fp => he _ (o.blk scope s H C cl fp)) (hs _)) fun σ H Q q => ?_
  · have ob := o.blk scope s H C cl fp
    refine pg_name (show X.N.Nodup by rw [o.N]; exact o.nd) (show X.N[j]? = some x by rw [o.N]; exact hj) (show Loc _ x from .inl (by rw [ob.sc]; exact hlx)) ?_
    exact .inr (by rw [ob.sc]; exact hlx)
  · exact lc_read q
theorem lc_se {elt iter : Expr} {ifs : List Expr} {scope : Scope} {x : Str} {px : Pos} {it : IT} {cs : IEs} {ie : IE} (j : Nat) (hi : SI Γ iter it) (hc : STs (Γ.blk scope) ifs cs) (he : SE (Γ.blk scope) elt ie)
    (hb : blkC Γ.N Γ.sc scope [(x, j)] = true := by rfl) (hj : Γ.N[j]? = some x := by rfl) (hlx : (relS scope Γ.sc).names.lookup x = some .local := by rfl)
    (hs : ∀ env y, foldedSetIterable iter env y = pure y := by intro _ _; rfl) : SE Γ (.ListComp elt [⟨.Name x px, iter, ifs, 0⟩] scope pos) (.lc j it cs ie) := (lc_sf j hi hc he hb hj hlx hs).se fun _ _ _ _ _ h => by
  obtain ⟨_, _, ys, _, _, _, e⟩ := ev_lc h
  exact ⟨ys, e⟩
end
end Ip

set_option Elab.async false
set_option linter.all false
set_option maxRecDepth 100000
set_option maxHeartbeats 4000000
namespace Ip
open PySem L2
section
variable {K : PySem.W.Frag} {p : Pa} {st st' : Pl} {B B' M F : Hp} {env env' : List Sl} {σ σ' : L2.St} {H H' : Hp} {a : Addr} {o : HO}
/-- a new list among the own ones, kept by a name -/
theorem Rel.setOw (r : Rel K p st B M F env σ H) {xs : List V} {ds : List D} (f : Fr B M F p a) (ha : H a = some (.lst xs)) (rx : RpA K B xs ds) (j : Nat) : Rel K p st B (upd M a (.lst xs)) F (env.set j (.ow ds)) (σ.set j (some (.ref a))) H where
  bs := r.bs
  m := (r.take f ha).m
  md := (r.take f ha).md
  en := {
    len := by rw [List.length_set, List.length_set]; exact r.en.len
    at_ := fun i s hi => by
      by_cases e : j = i
      · subst e
        have hl : j < env.length := by
          have := (List.getElem?_eq_some_iff.mp hi).1
          rw [List.length_set] at this
          exact this
        rw [List.getElem?_set_self hl] at hi
        cases hi
        exact ⟨some (.ref a), List.getElem?_set_self (by rw [← r.en.len]; exact hl), xs, upd_same, rx⟩
      · rw [List.getElem?_set_ne e] at hi
        obtain ⟨w, h1, h2⟩ := r.en.at_ i s hi
        exact ⟨w, by rw [List.getElem?_set_ne e]; exact h1, h2.up f.m⟩
    ap := fun i k es fs b hi hk si sk => by
      have old : ∀ {i : Nat} {es : List D}, j ≠ i → (env.set j (.ow ds))[i]? = some (.ow es) → (σ.set j (some (.ref a)))[i]? = some (some (.ref b)) → b ≠ a := fun {i es} e hi si => by
        rw [List.getElem?_set_ne e] at hi si
        obtain ⟨w, h1, h2⟩ := r.en.at_ i _ hi
        rw [si] at h1
        cases h1
        obtain ⟨zs, h3, _⟩ := h2
        exact ne_of_none h3 f.m
      have new : ∀ {i : Nat}, j = i → (σ.set j (some (.ref a)))[i]? = some (some (.ref b)) → b = a := fun {i} e si => by
        subst e
        have hl : j < σ.length := by
          have := (List.getElem?_eq_some_iff.mp si).1
          rw [List.length_set] at this
          exact this
        rw [List.getElem?_set_self hl] at si
        cases si
        rfl
      by_cases e1 : j = i
      · by_cases e2 : j = k
        · rw [← e1, ← e2]
        · exact absurd (new e1 si) (old e2 hk sk)
      · by_cases e2 : j = k
        · exact absurd (new e2 sk) (old e1 hi si)
        · rw [List.getElem?_set_ne e1] at hi si
          rw [List.getElem?_set_ne e2] at hk sk
          exact r.en.ap i k es fs b hi hk si sk }
/-- an own list grows -/
theorem Rel.grow (r : Rel K p st B M F env σ H) {i : Nat} {xs ys : List V} {ds es : List D} (he : env[i]? = some (.ow ds)) (hs : σ[i]? = some (some (.ref a))) (hm : M a = some (.lst xs)) (ry : RpA K B ys es) :
    Rel K p st B (upd M a (.lst ys)) F (env.set i (.ow es)) σ (upd H a (.lst ys)) where
  bs := by
    obtain ⟨h1, h2, h3⟩ := r.md a _ hm
    refine ⟨r.bs.b.right h1, r.bs.f.right h2, r.bs.d, r.bs.pf, r.bs.pb, ?_⟩
    obtain ⟨h4, h5⟩ := r.bs.pl
    exact ⟨by rw [upd_ne (fun e => h3 e.symm)]; exact h4, h5⟩
  m := r.m.up
  md := fun b u h => by
    by_cases hb : b = a
    · subst hb
      exact r.md b _ hm
    · rw [upd_ne hb] at h
      exact r.md b u h
  en := {
    len := by rw [List.length_set]; exact r.en.len
    at_ := fun k s hk => by
      by_cases e : i = k
      · subst e
        have hl : i < env.length := (List.getElem?_eq_some_iff.mp he).1
        rw [List.getElem?_set_self hl] at hk
        cases hk
        exact ⟨_, hs, ys, upd_same, ry⟩
      · rw [List.getElem?_set_ne e] at hk
        obtain ⟨w, h1, h2⟩ := r.en.at_ k s hk
        refine ⟨w, h1, ?_⟩
        cases s with
        | ow fs =>
          cases w with
          | none => exact h2
          | some v =>
            cases v with
            | ref b =>
              obtain ⟨zs, h3, h4⟩ := h2
              have hba : b ≠ a := fun z => by
                subst z
                exact e (r.en.ap i k ds fs b he hk hs h1)
              exact ⟨zs, by rw [upd_ne hba]; exact h3, h4⟩
            | _ => exact h2
        | no => exact h2
        | im d =>
          cases w with
          | none => exact h2
          | some v => exact h2
        | pl =>
          cases w with
          | none => exact h2
          | some v => cases v <;> exact h2
    ap := fun k l es' fs b hk hl sk sl => by
      have old : ∀ {k : Nat} {es' : List D}, (env.set i (.ow es))[k]? = some (.ow es') → ∃ fs, env[k]? = some (.ow fs) := fun {k es'} hk => by
        by_cases e : i = k
        · subst e
          exact ⟨ds, he⟩
        · rw [List.getElem?_set_ne e] at hk
          exact ⟨_, hk⟩
      obtain ⟨f1, h1⟩ := old hk
      obtain ⟨f2, h2⟩ := old hl
      exact r.en.ap k l f1 f2 b h1 h2 sk sl }
/-- an own list becomes known for good -/
theorem Rel.freeze (r : Rel K p st B M F env σ H) (i : Nat) : ∃ B' M', Ex B B' ∧ (∀ b u, M b = some u → M' b = some u ∨ B' b = some u) ∧ Rel K p st B' M' F (env.modify i frzS) σ H := by
  cases he : env[i]? with
  | none =>
    have e : env.modify i frzS = env := by
      apply List.ext_getElem?
      intro k
      rw [List.getElem?_modify]
      by_cases e : i = k
      · subst e
        rw [he]
        simp
      · simp [e]
    rw [e]
    exact ⟨B, M, Ex.refl B, fun _ _ h => .inl h, r⟩
  | some s =>
    have same : (∀ ds, s ≠ .ow ds) → env.modify i frzS = env := fun h => by
      apply List.ext_getElem?
      intro k
      rw [List.getElem?_modify]
      by_cases e : i = k
      · subst e
        rw [he]
        cases s with
        | ow ds => exact absurd rfl (h ds)
        | _ => simp [frzS]
      · simp [e]
    cases s with
    | ow ds =>
      obtain ⟨w, h1, h2⟩ := r.en.at_ i _ he
      cases w with
      | none => exact h2.elim
      | some v =>
        cases v with
        | ref a =>
          obtain ⟨xs, h3, h4⟩ := h2
          obtain ⟨g1, g2, g3⟩ := r.md a _ h3
          have x : Ex B (upd B a (.lst xs)) := Ex.new g1
          refine ⟨upd B a (.lst xs), fun b => if b = a then none else M b, x, fun b u h => ?_, ?_, ?_, ?_, ?_⟩
          · by_cases hb : b = a
            · subst hb
              rw [h3] at h
              cases h
              exact .inr upd_same
            · exact .inl (by simp only [if_neg hb]; exact h)
          · refine ⟨fun c u e => ?_, r.bs.f, fun c u e => ?_, r.bs.pf, ?_, ?_⟩
            · by_cases hc : c = a
              · subst hc
                rw [upd_same] at e
                rw [← e]
                exact r.m _ _ h3
              · rw [upd_ne hc] at e
                exact r.bs.b c u e
            · rw [upd_ne (ne_of_none e g2)]
              exact r.bs.d c u e
            · rw [upd_ne (fun e => g3 e.symm)]
              exact r.bs.pb
            · obtain ⟨q1, q2⟩ := r.bs.pl
              exact ⟨q1, x _ _ q2⟩
          · intro b u h
            by_cases hb : b = a
            · simp [hb] at h
            · simp only [if_neg hb] at h
              exact r.m b u h
          · intro b u h
            by_cases hb : b = a
            · simp [hb] at h
            · simp only [if_neg hb] at h
              rw [upd_ne hb]
              exact r.md b u h
          · refine ⟨by rw [List.length_modify]; exact r.en.len, fun k s hk => ?_, fun k l es fs b hk hl sk sl => ?_⟩
            · rw [List.getElem?_modify] at hk
              by_cases e : i = k
              · subst e
                rw [he] at hk
                simp [frzS] at hk
                subst hk
                exact ⟨_, h1, .lst upd_same (h4.mono x)⟩
              · simp [e] at hk
                obtain ⟨w, q1, q2⟩ := r.en.at_ k s hk
                refine ⟨w, q1, ?_⟩
                cases s with
                | ow fs =>
                  cases w with
                  | none => exact q2
                  | some v =>
                    cases v with
                    | ref b =>
                      obtain ⟨zs, q3, q4⟩ := q2
                      have hba : b ≠ a := fun z => by
                        subst z
                        exact e (r.en.ap i k ds fs b he hk h1 q1)
                      exact ⟨zs, by simp only [if_neg hba]; exact q3, q4.mono x⟩
                    | _ => exact q2
                | no => exact q2
                | im d =>
                  cases w with
                  | none => exact q2
                  | some v => exact Rp.mono x q2
                | pl =>
                  cases w with
                  | none => exact q2
                  | some v => cases v <;> exact q2
            · have old : ∀ {k : Nat} {es : List D}, (env.modify i frzS)[k]? = some (.ow es) → env[k]? = some (.ow es) := fun {k es} hk => by
                rw [List.getElem?_modify] at hk
                by_cases e : i = k
                · subst e
                  rw [he] at hk
                  simp [frzS] at hk
                · simpa [e] using hk
              exact r.en.ap k l es fs b (old hk) (old hl) sk sl
        | _ => exact h2.elim
    | no => rw [same (fun _ z => nomatch z)]; exact ⟨B, M, Ex.refl B, fun _ _ h => .inl h, r⟩
    | im d => rw [same (fun _ z => nomatch z)]; exact ⟨B, M, Ex.refl B, fun _ _ h => .inl h, r⟩
    | pl => rw [same (fun _ z => nomatch z)]; exact ⟨B, M, Ex.refl B, fun _ _ h => .inl h, r⟩
theorem Rel.freezeAll : ∀ (is : List Nat) {B M : Hp} {env : List Sl}, Rel K p st B M F env σ H → ∃ B' M', Ex B B' ∧ (∀ b u, M b = some u → M' b = some u ∨ B' b = some u) ∧ Rel K p st B' M' F (frzE env is) σ H
  | [], B, M, env, r => ⟨B, M, Ex.refl B, fun _ _ h => .inl h, r⟩
  | i :: is, B, M, env, r => by
    obtain ⟨B1, M1, x1, y1, r1⟩ := r.freeze i
    obtain ⟨B2, M2, x2, y2, r2⟩ := Rel.freezeAll is r1
    refine ⟨B2, M2, x1.trans x2, fun b u h => ?_, r2⟩
    rcases y1 b u h with h | h
    · exact y2 b u h
    · exact .inr (x2 b u h)
/-- lists that were lent out come back, if nothing holds them -/
theorem lent_se {Γ : Gam} {e : Expr} {i : IE} (is : List Nat) (h : SE Γ e i) : SE Γ e (.lent is i) := fun X o => PE_weak (h X o) fun σ H Q q => by
  obtain ⟨p, st, B, M, F, env, d, st', r, he, kk⟩ := q
  obtain ⟨B1, M1, x1, y1, r1⟩ := r.freezeAll is
  unfold ev at he
  split at he
  · rename_i y st1 e1
    split at he
    · rename_i hf
      cases he
      refine ⟨p, st, B1, M1, F, _, d, st', r1, e1, fun v B' H' x r' pv => ?_⟩
      have x' : Ex B (fun b => match M b with | some _ => none | none => B' b) := fun b u hb => by
        have hm : M b = none := by
          cases hm : M b with
          | none => rfl
          | some w =>
            rw [(r.md b w hm).1] at hb
            cases hb
        show (match M b with | some _ => none | none => B' b) = _
        rw [hm]
        exact x b u (x1 b u hb)
      have le : ∀ b u, (match M b with | some _ => none | none => B' b) = some u → B' b = some u := fun b u hb => by
        cases hm : M b with
        | none =>
          rw [hm] at hb
          exact hb
        | some w =>
          rw [hm] at hb
          cases hb
      refine kk v _ H' x' ?_ ?_
      · refine ⟨⟨fun b u hb => r'.bs.b b u (le b u hb), r'.bs.f, fun b u hb => ?_, r'.bs.pf, ?_, r'.bs.pl.1, ?_⟩, fun b u hb => ?_, fun b u hb => ⟨?_, (r.md b u hb).2⟩, r.en.mono x'⟩
        · show (match M b with | some _ => none | none => B' b) = none
          have := r'.bs.d b u hb
          cases M b with
          | none => exact this
          | some w => rfl
        · show (match M p with | some _ => none | none => B' p) = none
          have := r'.bs.pb
          cases M p with
          | none => exact this
          | some w => rfl
        · have hq : M p.q = none := by
            cases hm : M p.q with
            | none => rfl
            | some w =>
              have h1 := r.bs.pl.2
              rw [(r.md _ w hm).1] at h1
              cases h1
          show (match M p.q with | some _ => none | none => B' p.q) = _
          rw [hq]
          exact r'.bs.pl.2
        · rcases y1 b u hb with h1 | h1
          · exact r'.m b u h1
          · exact r'.bs.b b u (x b u h1)
        · show (match M b with | some _ => none | none => B' b) = none
          rw [hb]
      · cases d with
        | none => cases pv; exact .non
        | bool b => cases pv; exact .bl b
        | int i => cases pv; exact .int i
        | str s => cases pv; exact .str s
        | _ => exact absurd (show false = true from hf) (by decide)
    · cases he
  · cases he
end
end Ip

set_option Elab.async false
set_option linter.all false
set_option maxRecDepth 100000
set_option maxHeartbeats 4000000
namespace Ip
open PySem L2
structure Oks (Γ : Gam) (X : Cx) : Prop extends Okx Γ X where
  own : PassesOwn (model X.prog X.w) X.A X.env X.xe
  fnx : ∀ x, X.fn x = true
/-- what is wanted behind a statement, by what it came to -/
def OutK (K : PySem.W.Frag) (p : Pa) (B F : Hp) (D : Ends) : Out → Prop
  | .nx env st => ∀ B' M σ H, Ex B B' → Rel K p st B' M F env σ H → D.nx σ H
  | .rt d st => ∀ v B' H, Ex B B' → Bs p st B' F H → Rp K B' v d → D.rt v H
  | .bk env st => ∀ B' M σ H, Ex B B' → Rel K p st B' M F env σ H → D.bk σ H
  | .ct env st => ∀ B' M σ H, Ex B B' → Rel K p st B' M F env σ H → D.ct σ H
theorem OutK.mono {K : PySem.W.Frag} {p : Pa} {B B' F : Hp} {D : Ends} (x : Ex B B') : ∀ {o : Out}, OutK K p B F D o → OutK K p B' F D o
  | .nx _ _, h => fun B2 M σ H x2 r => h B2 M σ H (x.trans x2) r
  | .rt _ _, h => fun v B2 H x2 r pv => h v B2 H (x.trans x2) r pv
  | .bk _ _, h => fun B2 M σ H x2 r => h B2 M σ H (x.trans x2) r
  | .ct _ _, h => fun B2 M σ H x2 r => h B2 M σ H (x.trans x2) r
def TS1 (K : PySem.W.Frag) (cl : Cl) (s : IS) : TS := fun D σ H => ∃ p st B M F env o, Rel K p st B M F env σ H ∧ evS cl s env st = some o ∧ OutK K p B F D o
def TSs (K : PySem.W.Frag) (cl : Cl) (s : ISs) : TS := fun D σ H => ∃ p st B M F env o, Rel K p st B M F env σ H ∧ evSs cl s env st = some o ∧ OutK K p B F D o
def SS (Γ : Gam) (s : Stmt) (i : IS) : Prop := ∀ X, Oks Γ X → PS X s (TS1 Γ.K Γ.cl i)
def SSs (Γ : Gam) (s : List Stmt) (i : ISs) : Prop := ∀ X, Oks Γ X → PSs X s (TSs Γ.K Γ.cl i)
section
variable {Γ : Gam} {e a b c : Expr} {es rest : List Expr} {ia ib ic i : IE} {ies : IEs} {pos p0 p1 p2 : Pos} {x : Str} {s : Stmt} {ss : List Stmt} {is : IS} {iss : ISs}
theorem sss_nil : SSs Γ [] .nil := fun X o => PSs_weak pss_nil fun D σ H q => by
  obtain ⟨p, st, B, M, F, env, out, r, he, k⟩ := q
  unfold evSs at he
  cases he
  exact k B M σ H (Ex.refl B) r
theorem sss_cons (h : SS Γ s is) (hr : SSs Γ ss iss) : SSs Γ (s :: ss) (.cons is iss) := fun X o => PSs_weak (pss_cons (h X o) (hr X o)) fun D σ H q => by
  obtain ⟨p, st, B, M, F, env, out, r, he, k⟩ := q
  unfold evSs at he
  split at he
  · rename_i env1 st1 e1
    exact ⟨p, st, B, M, F, env, _, r, e1, fun B' M' σ' H' x r' => ⟨p, st1, B', M', F, env1, out, r', he, k.mono x⟩⟩
  · rename_i o1 hn e1
    cases he
    refine ⟨p, st, B, M, F, env, _, r, e1, ?_⟩
    cases out with
    | nx env1 st1 => exact (hn env1 st1 rfl).elim
    | rt d st1 => exact k
    | bk env1 st1 => exact k
    | ct env1 st1 => exact k
  · cases he
theorem ss_set (j : Nat) (h : SE Γ e i) (hN : Γ.N[j]? = some x := by rfl) (hl : Loc Γ.sc x := by first | exact Or.inl rfl | exact Or.inr rfl) (hs : ∀ env, swapsWith e (some (.Name x p0)) pos.line env = pure false := by intro _; rfl) : SS Γ (.Assign [.Name x p0] e pos) (.set j i) := fun X o =>
  PS_weak (ps_set (i := j) (by rw [o.N]; exact o.nd) (by rw [o.N]; exact hN) (by rw [o.sc]; exact hl) (h X o.toOkx) (hs _) (.inl (o.fnx x))) fun D σ H q => by
    obtain ⟨p, st, B, M, F, env, out, r, he, k⟩ := q
    unfold evS at he
    split at he
    · rename_i d st1 e1
      cases he
      exact ⟨p, st, B, M, F, env, d, st1, r, e1, fun v B' H' x r' pv => k B' M _ H' x (r'.set pv j)⟩
    · cases he
theorem ss_own (j : Nat) (h : SF Γ e i) (hN : Γ.N[j]? = some x := by rfl) (hl : Loc Γ.sc x := by first | exact Or.inl rfl | exact Or.inr rfl) (hs : ∀ env, swapsWith e (some (.Name x p0)) pos.line env = pure false := by intro _; rfl) : SS Γ (.Assign [.Name x p0] e pos) (.own j i) := fun X o =>
  PS_weak (ps_set (i := j) (by rw [o.N]; exact o.nd) (by rw [o.N]; exact hN) (by rw [o.sc]; exact hl) (h X o.toOkx) (hs _) (.inl (o.fnx x))) fun D σ H q => by
    obtain ⟨p, st, B, M, F, env, out, r, he, k⟩ := q
    unfold evS at he
    split at he
    · rename_i ds st1 e1
      cases he
      exact ⟨p, st, B, M, F, env, ds, st1, r, e1, fun a xs B' H' x h1 h2 h3 h4 h5 h6 r' => k B' _ _ H' x (r'.setOw ⟨h1, h2, h3, h4⟩ h5 h6 j)⟩
    · cases he
/-- x = [.. for ..]: the same, by the comprehension's own rule for a name -/
theorem ss_lcO (j : Nat) {elt iter : Expr} {ifs : List Expr} {scope : Scope} {y : Str} {px : Pos} {it : IT} {cs : IEs} {ie : IE} (n : Nat) (hi : SI Γ iter it) (hc : STs (Γ.blk scope) ifs cs) (he : SE (Γ.blk scope) elt ie)
    (hN : Γ.N[j]? = some x := by rfl) (hlv : Γ.sc.names.lookup x = some .local := by rfl) (hb : blkC Γ.N Γ.sc scope [(y, n)] = true := by rfl) (hj : Γ.N[n]? = some y := by rfl) (hlx : (relS scope Γ.sc).names.lookup y = some .local := by rfl)
    (hk : Γ.sc.kind = .function := by rfl) (hln : (p0.line == p1.line) = true := by rfl) (hany : (scope.names.any fun (n, k) => n == x && (k == .local || k == .cell)) = false := by rfl)
    (hs : ∀ env y, foldedSetIterable iter env y = pure y := by intro _ _; rfl) : SS Γ (.Assign [.Name x p0] (.ListComp elt [⟨.Name y px, iter, ifs, 0⟩] scope p1) pos) (.own j (.lc n it cs ie)) := fun X o =>
  PS_weak (ps_setLc (i := j) (own := [(y, n)]) (g := gName n) (tt := Ts Γ.K Γ.cl cs) (te := Tx Γ.K Γ.cl ie) o.calm (by rw [o.N]; exact o.nd) (by rw [o.N]; exact hN) (by rw [o.sc]; exact hlv)
    (sw_true (by rw [o.sc]; exact hk) (by rw [o.sc]; exact hlv) hln hany) (hi X _ o.toOkx) (blkOk_by (by rw [o.N, o.sc]; exact hb))
    (fun s H C cl fp => pg_name (show X.N.Nodup by rw [o.N]; exact o.nd) (show X.N[n]? = some y by rw [o.N]; exact hj) (show Loc _ y from .inl (by rw [(o.toOkx.blk scope s H C cl fp).sc]; exact hlx)) (.inr (by rw [(o.toOkx.blk scope s H C cl fp).sc]; exact hlx)))
    (fun s H C cl fp => hc _ (o.toOkx.blk scope s H C cl fp)) (fun s H C cl fp => he _ (o.toOkx.blk scope s H C cl fp)) (hs _)) fun D σ H q => by
    obtain ⟨p, st, B, M, F, env, out, r, he, k⟩ := q
    unfold evS at he
    split at he
    · rename_i ds st1 e1
      cases he
      exact lc_read ⟨p, st, B, M, F, env, ds, st1, r, e1, fun a xs B' H' x h1 h2 h3 h4 h5 h6 r' => k B' _ _ H' x (r'.setOw ⟨h1, h2, h3, h4⟩ h5 h6 j)⟩
    · cases he
theorem ss_lc (j : Nat) {elt iter : Expr} {ifs : List Expr} {scope : Scope} {y : Str} {px : Pos} {it : IT} {cs : IEs} {ie : IE} (n : Nat) (hi : SI Γ iter it) (hc : STs (Γ.blk scope) ifs cs) (he : SE (Γ.blk scope) elt ie)
    (hN : Γ.N[j]? = some x := by rfl) (hlv : Γ.sc.names.lookup x = some .local := by rfl) (hb : blkC Γ.N Γ.sc scope [(y, n)] = true := by rfl) (hj : Γ.N[n]? = some y := by rfl) (hlx : (relS scope Γ.sc).names.lookup y = some .local := by rfl)
    (hk : Γ.sc.kind = .function := by rfl) (hln : (p0.line == p1.line) = true := by rfl) (hany : (scope.names.any fun (n, k) => n == x && (k == .local || k == .cell)) = false := by rfl)
    (hs : ∀ env y, foldedSetIterable iter env y = pure y := by intro _ _; rfl) : SS Γ (.Assign [.Name x p0] (.ListComp elt [⟨.Name y px, iter, ifs, 0⟩] scope p1) pos) (.set j (.lc n it cs ie)) := fun X o =>
  PS_weak (ps_setLc (i := j) (own := [(y, n)]) (g := gName n) (tt := Ts Γ.K Γ.cl cs) (te := Tx Γ.K Γ.cl ie) o.calm (by rw [o.N]; exact o.nd) (by rw [o.N]; exact hN) (by rw [o.sc]; exact hlv)
    (sw_true (by rw [o.sc]; exact hk) (by rw [o.sc]; exact hlv) hln hany) (hi X _ o.toOkx) (blkOk_by (by rw [o.N, o.sc]; exact hb))
    (fun s H C cl fp => pg_name (show X.N.Nodup by rw [o.N]; exact o.nd) (show X.N[n]? = some y by rw [o.N]; exact hj) (show Loc _ y from .inl (by rw [(o.toOkx.blk scope s H C cl fp).sc]; exact hlx)) (.inr (by rw [(o.toOkx.blk scope s H C cl fp).sc]; exact hlx)))
    (fun s H C cl fp => hc _ (o.toOkx.blk scope s H C cl fp)) (fun s H C cl fp => he _ (o.toOkx.blk scope s H C cl fp)) (hs _)) fun D σ H q => by
    obtain ⟨p, st, B, M, F, env, out, r, he, k⟩ := q
    unfold evS at he
    split at he
    · rename_i d st1 e1
      cases he
      obtain ⟨_, _, ys, _, _, _, e2⟩ := ev_lc e1
      subst e2
      exact lc_read ⟨p, st, B, M, F, env, ys, st1, r, e1, fun a xs B' H' x h1 h2 h3 h4 h5 h6 r' => k _ M _ H' (x.trans (Ex.new h1)) ((r'.know h5 h1 h2 h3 h4).set (.lst upd_same (h6.mono (Ex.new h1))) j)⟩
    · cases he
theorem ss_app (n : Nat) (h : SE Γ e i) (hN : Γ.N[n]? = some x := by rfl) (hv : Vis Γ.sc x := by first | exact Or.inl rfl | exact Or.inr (Or.inl rfl) | exact Or.inr (Or.inr rfl)) (hd : (x == ("__debug__" : Str)) = false := by decide) (hcd : (x == ("__classdict__" : Str)) = false := by decide)
    (hbase : ∀ env, attributeBase (.Name x p0) "append" env (eval (.Name x p0) env) = eval (.Name x p0) env := by intro _; rfl)
    (hfew : ∀ env, ((backTo p2 (starEach [e] env)).all (fun x => !x.1) && (backToKw p2 (keywordEach [] env)).all (fun x => x.1.isSome) && decide (([e] : List Expr).length + ([] : List Keyword).length + (if ([] : List Keyword).isEmpty then 0 else 1) < 30)) = true := by intro _; rfl)
    (hline : (p1.endLine == p2.line) = true := by rfl) (hs : ∀ env, starEach [e] env = (false, eval e env) :: starEach [] env := by intro _; rfl) (hsw : ∀ env, swapsWith (.Call (.Attribute (.Name x p0) "append" p1) [e] [] p2) none pos.line env = pure false := by intro _; rfl) :
    SS Γ (.Expr (.Call (.Attribute (.Name x p0) "append" p1) [e] [] p2) pos) (.app n i) := fun X o =>
  PS_weak (ps_expr (pe_bm PySem.F.plainAttrs_list PySem.F.slot_list_append PySem.F.type_list_append mt_append (pe_var (i := n) (by rw [o.N]; exact hN) (by rw [o.sc]; exact hv) hd hcd) ((sa_cons h sa_nil hs) X o.toOkx) (hbase _) (hfew _) hline (hs _) rfl) (hsw _)) fun D σ H q => by
    obtain ⟨p, st, B, M, F, env, out, r, he, k⟩ := q
    unfold evS at he
    split at he
    · rename_i d st1 e1
      split at he
      · rename_i ds e2
        obtain ⟨hl, he⟩ := ite_some he
        subst he
        obtain ⟨w, h1, h2⟩ := r.en.at_ n _ e2
        cases w with
        | none => exact h2.elim
        | some v =>
          cases v with
          | ref a =>
            obtain ⟨xs, h3, h4⟩ := h2
            refine ⟨_, h1, .inl ⟨rfl, xs, Or.inl (Or.inl (r.m _ _ h3))⟩, p, st, B, M, F, env, [d], st1, r, by unfold ea; rw [e1]; rfl, fun vs B' H' x r' pv => ?_⟩
            match vs, pv with
            | [v], .cons pv .nil =>
              refine ⟨a, xs, v, rfl, rfl, r'.m _ _ h3, most_lt (by rw [h4.length]; exact hl), ?_⟩
              exact k B' _ σ _ x (r'.grow e2 h1 h3 ((h4.mono x).append (.one pv)))
          | _ => exact h2.elim
      · cases he
    · cases he
theorem ss_ext (n : Nat) (h : SE Γ e i) (hN : Γ.N[n]? = some x := by rfl) (hv : Vis Γ.sc x := by first | exact Or.inl rfl | exact Or.inr (Or.inl rfl) | exact Or.inr (Or.inr rfl)) (hd : (x == ("__debug__" : Str)) = false := by decide) (hcd : (x == ("__classdict__" : Str)) = false := by decide)
    (hbase : ∀ env, attributeBase (.Name x p0) "extend" env (eval (.Name x p0) env) = eval (.Name x p0) env := by intro _; rfl)
    (hfew : ∀ env, ((backTo p2 (starEach [e] env)).all (fun x => !x.1) && (backToKw p2 (keywordEach [] env)).all (fun x => x.1.isSome) && decide (([e] : List Expr).length + ([] : List Keyword).length + (if ([] : List Keyword).isEmpty then 0 else 1) < 30)) = true := by intro _; rfl)
    (hline : (p1.endLine == p2.line) = true := by rfl) (hs : ∀ env, starEach [e] env = (false, eval e env) :: starEach [] env := by intro _; rfl) (hsw : ∀ env, swapsWith (.Call (.Attribute (.Name x p0) "extend" p1) [e] [] p2) none pos.line env = pure false := by intro _; rfl) :
    SS Γ (.Expr (.Call (.Attribute (.Name x p0) "extend" p1) [e] [] p2) pos) (.ext n i) := fun X o =>
  PS_weak (ps_expr (pe_bm PySem.F.plainAttrs_list PySem.F.slot_list_extend PySem.F.type_list_extend mt_extend (pe_var (i := n) (by rw [o.N]; exact hN) (by rw [o.sc]; exact hv) hd hcd) ((sa_cons h sa_nil hs) X o.toOkx) (hbase _) (hfew _) hline (hs _) rfl) (hsw _)) fun D σ H q => by
    obtain ⟨p, st, B, M, F, env, out, r, he, k⟩ := q
    unfold evS at he
    split at he
    · rename_i es st1 e1
      split at he
      · rename_i ds e2
        obtain ⟨hl, he⟩ := ite_some he
        subst he
        obtain ⟨w, h1, h2⟩ := r.en.at_ n _ e2
        cases w with
        | none => exact h2.elim
        | some v =>
          cases v with
          | ref a =>
            obtain ⟨xs, h3, h4⟩ := h2
            refine ⟨_, h1, .inl ⟨rfl, xs, Or.inl (Or.inl (r.m _ _ h3))⟩, p, st, B, M, F, env, [.list es], st1, r, by unfold ea; rw [e1]; rfl, fun vs B' H' x r' pv => ?_⟩
            match vs, pv with
            | [_], .cons (@Rp.lst _ _ b zs _ hz rz) .nil =>
              refine ⟨a, b, xs, zs, rfl, rfl, r'.m _ _ h3, r'.bs.b _ _ hz, most_line (by rw [h4.length, rz.length]; exact hl), ?_⟩
              exact k B' _ σ _ x (r'.grow e2 h1 h3 ((h4.mono x).append rz))
          | _ => exact h2.elim
      · cases he
    · cases he
theorem ss_iff {sa sb : List Stmt} {xa xb : ISs} (hc : ST Γ c ic) (ha : SSs Γ sa xa) (hb : SSs Γ sb xb) : SS Γ (.If c sa sb pos) (.iff ic xa xb) := fun X o => PS_weak (ps_if (hc X o.toOkx) (ha X o) (hb X o)) fun D σ H q => by
  obtain ⟨p, st, B, M, F, env, out, r, he, k⟩ := q
  unfold evS at he
  split at he
  · rename_i st1 e1
    exact ⟨p, st, B, M, F, env, true, st1, r, e1, fun B' H' x r' => iteT ⟨p, st1, B', M, F, env, out, r', he, k.mono x⟩⟩
  · rename_i st1 e1
    exact ⟨p, st, B, M, F, env, false, st1, r, e1, fun B' H' x r' => iteF ⟨p, st1, B', M, F, env, out, r', he, k.mono x⟩⟩
  · cases he
theorem ss_ret (h : SE Γ e i) : SS Γ (.Return (some e) pos) (.ret i) := fun X o => PS_weak (ps_ret (h X o.toOkx)) fun D σ H q => by
  obtain ⟨p, st, B, M, F, env, out, r, he, k⟩ := q
  unfold evS at he
  split at he
  · rename_i d st1 e1
    cases he
    exact ⟨p, st, B, M, F, env, d, st1, r, e1, fun v B' H' x r' pv => k v B' H' x r'.bs pv⟩
  · cases he
theorem ss_retN : SS Γ (.Return none pos) .retN := fun X o => PS_weak ps_retN fun D σ H q => by
  obtain ⟨p, st, B, M, F, env, out, r, he, k⟩ := q
  unfold evS at he
  cases he
  exact k .non B H (Ex.refl B) r.bs .non
theorem ss_drop (h : SE Γ e i) (hs : ∀ env, swapsWith e none pos.line env = pure false := by intro _; rfl) : SS Γ (.Expr e pos) (.drop i) := fun X o => PS_weak (ps_expr (h X o.toOkx) (hs _)) fun D σ H q => by
  obtain ⟨p, st, B, M, F, env, out, r, he, k⟩ := q
  unfold evS at he
  split at he
  · rename_i d st1 e1
    cases he
    exact ⟨p, st, B, M, F, env, d, st1, r, e1, fun v B' H' x r' pv => k B' M σ H' x r'⟩
  · cases he
theorem ss_brk : SS Γ (.Break pos) .brk := fun X o => PS_weak ps_break fun D σ H q => by
  obtain ⟨p, st, B, M, F, env, out, r, he, k⟩ := q
  unfold evS at he
  cases he
  exact k B M σ H (Ex.refl B) r
theorem ss_cnt : SS Γ (.Continue pos) .cnt := fun X o => PS_weak ps_continue fun D σ H q => by
  obtain ⟨p, st, B, M, F, env, out, r, he, k⟩ := q
  unfold evS at he
  cases he
  exact k B M σ H (Ex.refl B) r
theorem ss_frz (js : List Nat) (h : SS Γ s is) : SS Γ s (.frz js is) := fun X o => PS_weak (h X o) fun D σ H q => by
  obtain ⟨p, st, B, M, F, env, out, r, he, k⟩ := q
  unfold evS at he
  obtain ⟨B', M', x, _, r'⟩ := r.freezeAll js
  exact ⟨p, st, B', M', F, _, out, r', he, k.mono x⟩
/-! ### targets -/
def Tgt (K : PySem.W.Frag) (j : Sg) : TG := fun v σ H Q => ∃ p st B M F env d env', Rel K p st B M F env σ H ∧ Rp K B v d ∧ sgD j d env = some env' ∧ ∀ σ', Rel K p st B M F env' σ' H → Q σ' H
def SGt (Γ : Gam) (e : Expr) (j : Sg) : Prop := ∀ X, Oks Γ X → PG X e (Tgt Γ.K j)
theorem PG_weak {X : Cx} {t t' : TG} (h : PG X e t) (w : ∀ v σ H Q, t' v σ H Q → t v σ H Q) : PG X e t' := ⟨fun pins s σ H v u Q I r q => h.run pins s σ H v u Q I r (w v σ H Q q)⟩
theorem PG_or {X : Cx} {t t' : TG} (h : PG X e t) (h' : PG X e t') : PG X e (fun v σ H Q => t v σ H Q ∨ t' v σ H Q) := ⟨fun pins s σ H v u Q I r q => by
  rcases q with q | q
  · exact h.run pins s σ H v u Q I r q
  · exact h'.run pins s σ H v u Q I r q⟩
theorem tg_one (j : Nat) (hN : Γ.N[j]? = some x := by rfl) (hl : Loc Γ.sc x := by first | exact Or.inl rfl | exact Or.inr rfl) : SGt Γ (.Name x p0) (.one j) := fun X o =>
  PG_weak (pg_name (i := j) (by rw [o.N]; exact o.nd) (by rw [o.N]; exact hN) (by rw [o.sc]; exact hl) (.inl (o.fnx x))) fun v σ H Q q => by
    obtain ⟨p, st, B, M, F, env, d, env', r, pv, he, k⟩ := q
    cases he
    exact k _ (r.set pv j)
def gMany : List Nat → TGs
  | [] => gNil
  | j :: js => gCons (gName j) (gMany js)
def SGs (Γ : Gam) (es : List Expr) (js : List Nat) : Prop := ∀ X, Oks Γ X → PGs X es (gMany js)
theorem sgs_nil : SGs Γ [] [] := fun X o => pgs_nil
theorem sgs_cons {js : List Nat} (j : Nat) (hr : SGs Γ es js) (hN : Γ.N[j]? = some x := by rfl) (hl : Loc Γ.sc x := by first | exact Or.inl rfl | exact Or.inr rfl)
    (hs : ∀ env, (assignEach (.Name x p0 :: es) env).map (·.2) = assign (.Name x p0) env :: (assignEach es env).map (·.2) := by intro _; rfl) : SGs Γ (.Name x p0 :: es) (j :: js) := fun X o =>
  pgs_cons (pg_name (i := j) (by rw [o.N]; exact o.nd) (by rw [o.N]; exact hN) (by rw [o.sc]; exact hl) (.inl (o.fnx x))) (hr X o) (hs _)
theorem many_go {K : PySem.W.Frag} {p : Pa} {st : Pl} {B M F : Hp} {H : Hp} : ∀ {js : List Nat} {ds : List D} {vs : List V} {env env' : List Sl} {σ : L2.St} {Q : L2.St → Hp → Prop}, Rel K p st B M F env σ H → RpA K B vs ds → setMany js ds env = some env' → (∀ σ', Rel K p st B M F env' σ' H → Q σ' H) → gMany js vs σ H Q
  | [], [], _, env, env', σ, Q, r, .nil, he, k => by
    cases he
    exact ⟨rfl, k σ r⟩
  | j :: js, d :: ds, _, env, env', σ, Q, r, .cons pv rv, he, k => ⟨_, _, rfl, many_go (r.set pv j) rv he k⟩
  | [], _ :: _, _, _, _, _, _, _, _, he, _ => by cases he
  | _ :: _, [], _, _, _, _, _, _, _, he, _ => by cases he
theorem setMany_len : ∀ {js : List Nat} {ds : List D} {env env' : List Sl}, setMany js ds env = some env' → ds.length = js.length
  | [], [], _, _, _ => rfl
  | j :: js, d :: ds, env, env', h => congrArg Nat.succ (setMany_len (js := js) (ds := ds) h)
  | [], _ :: _, _, _, h => by cases h
  | _ :: _, [], _, _, h => by cases h
theorem tg_many {js : List Nat} {k : Nat} (h : SGs Γ es js) (hn : ∀ env, (assignEach es env).length = js.length := by intro _; rfl) (hst : ∀ env, (assignEach es env).findIdx? (·.1) = none := by intro _; rfl) : SGt Γ (.Tuple es k pos) (.many js) := fun X o =>
  PG_weak (PG_or (pg_tup (n := js.length) o.calm (h X o) (hn _) (hst _)) (pg_unl (n := js.length) o.calm (h X o) (hn _) (hst _))) fun v σ H Q q => by
    obtain ⟨p, st, B, M, F, env, d, env', r, pv, he, kk⟩ := q
    rw [o.K]
    have he' : (match itD d with
      | some ds => setMany js ds env
      | none => none) = some env' := he
    cases e1 : itD d with
    | none =>
      rw [e1] at he'
      cases he'
    | some ds =>
      rw [e1] at he'
      rcases itD_lst e1 with rfl | rfl
      · cases pv with
        | @lst a xs _ hx rx => exact .inr ⟨a, xs, rfl, Or.inl (Or.inl (r.bs.b _ _ hx)), by rw [rx.length, setMany_len he'], many_go r rx he' kk⟩
      · cases pv with
        | @tup a xs _ hx rx => exact .inl ⟨a, xs, rfl, sqt_mono r.bs.b hx, by rw [rx.length, setMany_len he'], many_go r rx he' kk⟩
theorem ss_unp {js : List Nat} {tg : Expr} (h : SE Γ e i) (ht : SGt Γ tg (.many js)) (hs : ∀ env, swapsWithSole [tg] e pos.line env = pure false := by intro _; rfl) (hw : ∀ env, swappedStores [tg] e env = pure none := by intro _; rfl)
    (h1 : ∀ env, (assignEach [tg] env).map (·.2) = [assign tg env] := by intro _; rfl) : SS Γ (.Assign [tg] e pos) (.unp js i) := fun X o => PS_weak (ps_asg (h X o.toOkx) (ht X o) (hs _) (hw _) (h1 _)) fun D σ H q => by
  obtain ⟨p, st, B, M, F, env, out, r, he, k⟩ := q
  unfold evS at he
  split at he
  · rename_i d st1 e1
    obtain ⟨env1, e2, e3⟩ := Option.map_eq_some_iff.mp he
    subst e3
    exact ⟨p, st, B, M, F, env, d, st1, r, e1, fun v B' H' x r' pv => ⟨p, st1, B', M, F, env, d, env1, r', pv, e2, fun σ' r'' => k B' M σ' H' x r''⟩⟩
  · cases he
theorem ss_for {tg : Expr} {j : Sg} {it : IT} (hi : SI Γ e it) (ht : SGt Γ tg j) (hb : SSs Γ ss iss) (hs : ∀ env y, foldedSetIterable e env y = pure y := by intro _ _; rfl) : SS Γ (.For tg e ss [] pos) (.forr j it iss) := fun X o =>
  PS_weak (ps_for o.own o.calm (hi X tg o.toOkx) (ht X o) (hb X o) (hs _)) fun D σ H q => by
    obtain ⟨p, st, B, M, F, env, out, r, he, k⟩ := q
    unfold evS at he
    split at he
    · rename_i ds st1 e1
      refine walk_for r e1 (fun B1 n B' σ' H' => Ex B1 B' ∧ Ex B' H' ∧ Ex B B' ∧ ∃ sti envi Mi, Rel Γ.K p sti B' Mi F envi σ' H' ∧ forG (fun d env st => match sgD j d env with
        | some env1 => evSs Γ.cl iss env1 st
        | none => none) (ds.drop n) envi sti = some out) (fun B1 H1 x1 r1 => ⟨Ex.refl B1, r1.bs.b, x1, st1, env, M, r1, he⟩) (fun B1 n B' σ' H' q => ⟨q.1, q.2.1⟩) (fun B1 n d v B' σ' H' x1 hd pv q => ?_) (fun B1 B' σ' H' q => ?_)
      · obtain ⟨x2, x3, x4, sti, envi, Mi, r2, e4⟩ := q
        have hdr : ds.drop n = d :: ds.drop (n + 1) := List.drop_eq_getElem_cons (by
            exact (List.getElem?_eq_some_iff.mp hd).1) |>.trans (by rw [(List.getElem?_eq_some_iff.mp hd).2])
        rw [hdr] at e4
        unfold forG at e4
        cases e5 : sgD j d envi with
        | none =>
          simp only [e5] at e4
          cases e4
        | some env1 =>
          simp only [e5] at e4
          refine ⟨p, sti, B', Mi, F, envi, d, env1, r2, pv.mono x2, e5, fun σ2 r3 => ?_⟩
          cases e6 : evSs Γ.cl iss env1 sti with
          | none =>
            rw [e6] at e4
            cases e4
          | some o1 =>
            rw [e6] at e4
            refine ⟨p, sti, B', Mi, F, env1, o1, r3, e6, ?_⟩
            cases o1 with
            | nx ev2 st2 => exact fun B3 M3 σ3 H3 x5 r5 => ⟨B3, x2.trans x5, r5.bs.b, x4.trans x5, st2, ev2, M3, r5, e4⟩
            | ct ev2 st2 => exact fun B3 M3 σ3 H3 x5 r5 => ⟨B3, x2.trans x5, r5.bs.b, x4.trans x5, st2, ev2, M3, r5, e4⟩
            | bk ev2 st2 =>
              cases e4
              exact fun B3 M3 σ3 H3 x5 r5 => k B3 M3 σ3 H3 (x4.trans x5) r5
            | rt d2 st2 =>
              cases e4
              exact fun v3 B3 H3 x5 r5 p5 => k v3 B3 H3 (x4.trans x5) r5 p5
      · obtain ⟨x2, x3, x4, sti, envi, Mi, r2, e4⟩ := q
        rw [List.drop_length] at e4
        unfold forG at e4
        cases e4
        exact k B' Mi σ' H' x4 r2
    · cases he
end
/-! ### a def -/
theorem ArA.length {K : PySem.W.Frag} {p : Pa} {B : Hp} : ∀ {vs : List V} {ds : List (Option D)}, ArA K p B vs ds → vs.length = ds.length
  | _, _, .nil => rfl
  | _, _, .cons _ r => congrArg Nat.succ (ArA.length r)
  | _, _, .pool r => congrArg Nat.succ (ArA.length r)
theorem ArA.get {K : PySem.W.Frag} {p : Pa} {B : Hp} : ∀ {vs : List V} {ds : List (Option D)} {i : Nat} {d : Option D}, ArA K p B vs ds → ds[i]? = some d → ∃ v, vs[i]? = some v ∧ SlR K p B (fun _ => none) (slOf d) (some v)
  | _, _, _, _, .nil, e => by simp at e
  | _, _, 0, _, .cons h _, e => by
    simp at e
    subst e
    exact ⟨_, rfl, h⟩
  | _, _, 0, _, .pool _, e => by
    simp at e
    subst e
    exact ⟨_, rfl, rfl⟩
  | _, _, i + 1, d, .cons _ r, e => by
    obtain ⟨v, h1, h2⟩ := ArA.get (i := i) (d := d) r (by simpa using e)
    exact ⟨v, by simpa using h1, h2⟩
  | _, _, i + 1, d, .pool r, e => by
    obtain ⟨v, h1, h2⟩ := ArA.get (i := i) (d := d) r (by simpa using e)
    exact ⟨v, by simpa using h1, h2⟩
theorem rel_start {K : PySem.W.Frag} {p : Pa} {st : Pl} {B F H : Hp} {vs : List V} {as : List (Option D)} {N : List Str} (w : Bs p st B F H) (ha : ArA K p B vs as) : Rel K p st B (fun _ => none) F (as.map slOf ++ List.replicate (N.length - as.length) .no) (L2.start N vs) H where
  bs := w
  m := fun a o h => by cases h
  md := fun a o h => by cases h
  en := {
    len := by
      unfold L2.start
      simp [ha.length]
    at_ := fun i s hi => by
      unfold L2.start
      by_cases hl : i < as.length
      · rw [List.getElem?_append_left (by simpa using hl), List.getElem?_map] at hi
        obtain ⟨d, h1, h2⟩ := Option.map_eq_some_iff.mp hi
        subst h2
        obtain ⟨v, h3, h4⟩ := ha.get h1
        exact ⟨some v, by rw [List.getElem?_append_left (by simpa [ha.length] using hl), List.getElem?_map, h3]; rfl, h4⟩
      · rw [List.getElem?_append_right (by simpa using hl), List.getElem?_replicate] at hi
        split at hi
        · rename_i hlt
          cases hi
          refine ⟨none, ?_, True.intro⟩
          rw [List.getElem?_append_right (by simpa [ha.length] using hl), List.getElem?_replicate, if_pos (by simpa [ha.length] using hlt)]
        · cases hi
    ap := fun i j ds es a hi _ _ _ => by
      by_cases hl : i < as.length
      · rw [List.getElem?_append_left (by simpa using hl), List.getElem?_map] at hi
        obtain ⟨d, h1, h2⟩ := Option.map_eq_some_iff.mp hi
        cases d <;> cases h2
      · rw [List.getElem?_append_right (by simpa using hl), List.getElem?_replicate] at hi
        split at hi <;> cases hi }
section
variable {P : Program} {w : World} {K : PySem.W.Frag} {mg : Str → Option Value} {base : Heap}
/-- a def's promise, over data, from its body in short -/
theorem fn_ok {x qual : Str} {params : Arguments} {body : List Stmt} {scope : Scope} {f : Addr} {fd : FuncData} {N ps : List Str} {k : Nat} {Γ : Gam} {I : IF} {cl : Cl} {g : Str} (F : FunD K x qual params body scope [] [] f fd) (S : FnScope N ps scope)
    (hK : Γ.K = K) (hN : Γ.N = N) (hsc : Γ.sc = scope) (hb : SSs Γ body I.body) (hn : I.n = N.length)
    (hcl : ∀ as st d st', cl g as st = some (d, st') → as.length = ps.length ∧ runF Γ.cl I as st = some (d, st'))
    (hfn : ∀ h ∈ Γ.fs, ∃ fa fd ps j, j ≤ k ∧ FnOk P w K mg base (L2.CX P w) j fa fd ps (spF K Γ.cl h) ∧ mg h = some (.ref fa) ∧ PySem.W.keepIn K (.ref fa) = true ∧ Binds K fd ps [])
    (hbl : ∀ h ∈ Γ.bs, mg h = none) : FnOk P w K mg base (L2.CX P w) (k + 1) f fd ps (spF K cl g) := by
  refine F.ok S (fun vs H Q E h => ?_) (fun cdv A outer s H vs Q E hr h => ?_)
  · obtain ⟨p, st, B, F, as, d, st', _, ha, he, _⟩ := h
    rw [ha.length, (hcl _ _ _ _ he).1]
  · obtain ⟨p, st, B, F, as, d, st', w1, ha, he, kk⟩ := h
    have ok : Oks Γ (cxOf (L2.CX P w) P w K mg base N qual scope f cdv A outer s H E) := {
      K := hK.symm
      N := hN.symm
      nd := by rw [hN]; exact S.nd
      sc := hsc.symm
      calm := rfl
      units := by
        have h := hr.un
        show (A.deeper (PyProof.Rows.envOfC qual scope s.heap.objs.size f cdv)).units + 100 < cLine
        omega
      fn := fun g hg => by
        obtain ⟨fa, fd, ps, j, hj, F1, h1, h2, h3⟩ := hfn g hg
        rw [hK]
        exact ⟨fa, fd, ps, j, F1, h1, h2, h3, hr.mono hj⟩
      bl := hbl
      own := passes_of rfl
      fnx := fun _ => rfl }
    refine ⟨_, hb _ ok, p, st, B, fun _ => none, F, as.map slOf ++ List.replicate (N.length - as.length) .no, ?_⟩
    have hrun := (hcl _ _ _ _ he).2
    unfold runF at hrun
    rw [hn] at hrun
    rw [hK]
    cases e1 : evSs Γ.cl I.body (as.map slOf ++ List.replicate (N.length - as.length) .no) st with
    | none =>
      rw [e1] at hrun
      cases hrun
    | some o =>
      rw [e1] at hrun
      cases o with
      | rt d2 st2 =>
        cases hrun
        exact ⟨_, rel_start w1 ha, rfl, fun v B' H' x r pv => kk v B' H' x r pv⟩
      | nx env2 st2 =>
        cases hrun
        exact ⟨_, rel_start w1 ha, rfl, fun B' M' σ' H' x r => kk .non B' H' x r.bs .non⟩
      | bk env2 st2 => cases hrun
      | ct env2 st2 => cases hrun
end
end Ip

set_option Elab.async false
set_option linter.all false
set_option maxRecDepth 100000
set_option maxHeartbeats 4000000
namespace Ip
open PySem L2
section
variable {Γ : Gam} {e a b c : Expr} {i : IE} {pos p0 p1 p2 p3 p4 p5 : Pos} {x : Str} {j0 j1 : Nat}
theorem pl_of {K : PySem.W.Frag} {p : Pa} {st : Pl} {B M F : Hp} {env : List Sl} {σ : L2.St} {H : Hp} {n : Nat} (r : Rel K p st B M F env σ H) (he : env[n]? = some .pl) : σ[n]? = some (some (.ref p)) := by
  obtain ⟨w, h1, h2⟩ := r.en.at_ n _ he
  cases w with
  | none => exact h2.elim
  | some v =>
    cases v with
    | ref a =>
      obtain rfl : a = p := h2
      exact h1
    | _ => exact h2.elim
theorem pix_se (n k : Nat) (hN : Γ.N[n]? = some x := by rfl) (hv : Vis Γ.sc x := by first | exact Or.inl rfl | exact Or.inr (Or.inl rfl) | exact Or.inr (Or.inr rfl)) (hd : (x == ("__debug__" : Str)) = false := by decide) (hcd : (x == ("__classdict__" : Str)) = false := by decide) :
    SE Γ (.Subscript (.Name x p0) (.Constant (.int (k : Int)) j0 p1) pos) (.pix n k) := fun X o =>
  PE_weak (pe_ix ix_list (pe_var (i := n) (by rw [o.N]; exact hN) (by rw [o.sc]; exact hv) hd hcd) pe_int (fun _ _ => rfl)) fun σ H Q q => by
    obtain ⟨p, st, B, M, F, env, d, st', r, he, kk⟩ := q
    unfold ev at he
    split at he
    · rename_i e1
      obtain ⟨m, e2, e3⟩ := Option.map_eq_some_iff.mp he
      cases e3
      obtain ⟨h1, h2⟩ := r.bs.pl
      refine ⟨_, pl_of r e1, p, _, _, .int m, rfl, rfl, Or.inl (Or.inl h1), ?_, kk _ B H (Ex.refl B) r (.int _)⟩
      match k, e2 with
      | 1, e2 => cases e2; rfl
      | 2, e2 => cases e2; rfl
      | 3, e2 => cases e2; rfl
      | 4, e2 => cases e2; rfl
    · cases he
theorem pix0 (n : Nat) (hN : Γ.N[n]? = some x) (hv : Vis Γ.sc x) (hd : (x == ("__debug__" : Str)) = false) (hcd : (x == ("__classdict__" : Str)) = false) (X : Cx) (o : Okx Γ X) : PE X (.Subscript (.Name x p0) (.Constant (.int 0) j0 p1) pos)
    (fun σ H Q => ∃ (p : Pa) (st : Pl) (B M F : Hp) (env : List Sl) (_q : Addr), Rel Γ.K p st B M F env σ H ∧ env[n]? = some .pl ∧ ∀ q, B q = some (.lst (st.ns.map V.int)) → Q (.ref q) H) :=
  PE_weak (pe_ix ix_list (pe_var (i := n) (by rw [o.N]; exact hN) (by rw [o.sc]; exact hv) hd hcd) pe_int (fun _ _ => rfl)) fun σ H Q q => by
    obtain ⟨p, st, B, M, F, env, _, r, he, kk⟩ := q
    obtain ⟨h1, h2⟩ := r.bs.pl
    exact ⟨_, pl_of r he, p, _, _, .ref p.q, rfl, rfl, Or.inl (Or.inl h1), rfl, kk _ h2⟩
theorem pcel_se (n : Nat) (hN : Γ.N[n]? = some x := by rfl) (hv : Vis Γ.sc x := by first | exact Or.inl rfl | exact Or.inr (Or.inl rfl) | exact Or.inr (Or.inr rfl)) (hd : (x == ("__debug__" : Str)) = false := by decide) (hcd : (x == ("__classdict__" : Str)) = false := by decide) :
    SE Γ (.Subscript (.Subscript (.Name x p0) (.Constant (.int 0) j0 p1) p2) (.Subscript (.Name x p3) (.Constant (.int 1) j1 p4) p5) pos) (.pcel n) := fun X o =>
  PE_weak (pe_ix ix_list (pix0 n hN hv hd hcd X o) (pix_se (x := x) n 1 hN hv hd hcd X o) (fun _ _ => rfl)) fun σ H Q q => by
    obtain ⟨p, st, B, M, F, env, d, st', r, he, kk⟩ := q
    unfold ev at he
    split at he
    · rename_i e1
      obtain ⟨m, e2, e3⟩ := Option.map_eq_some_iff.mp he
      cases e3
      refine ⟨p, st, B, M, F, env, p.a, r, e1, fun q h2 => ⟨p, st, B, M, F, env, .int st.i, st, r, by unfold ev; rw [e1]; rfl, fun v B' H' x1 r' pv => ?_⟩⟩
      cases pv
      refine ⟨q, st.ns.map V.int, st.i, .int m, rfl, rfl, Or.inl (Or.inl (r'.bs.b _ _ (x1 _ _ h2))), ?_, kk _ B' H' x1 r' (.int _)⟩
      unfold L2.atI at e2 ⊢
      obtain ⟨w, e4, e5⟩ := Option.bind_eq_some_iff.mp e2
      rw [List.length_map, e4]
      show (st.ns.map V.int)[w]? = some (.int m)
      rw [List.getElem?_map, e5]
      rfl
    · cases he
theorem plen_se (n : Nat) (hN : Γ.N[n]? = some x := by rfl) (hv : Vis Γ.sc x := by first | exact Or.inl rfl | exact Or.inr (Or.inl rfl) | exact Or.inr (Or.inr rfl)) (hd : (x == ("__debug__" : Str)) = false := by decide) (hcd : (x == ("__classdict__" : Str)) = false := by decide)
    (hb : Γ.bs.contains "len" = true := by rfl) (hg : GlS Γ.sc "len" := by rfl) : SE Γ (.Call (.Name "len" p3) [.Subscript (.Name x p0) (.Constant (.int 0) j0 p1) p2] [] pos) (.plen n) := fun X o =>
  PE_weak (pe_callB call_len (o.gl hg) (o.bl _ (List.contains_iff_mem.mp hb)) PySem.boot_len (pa_cons (pix0 n hN hv hd hcd X o) pa_nil) (by decide) (by decide) rfl rfl) fun σ H Q q => by
    obtain ⟨p, st, B, M, F, env, d, st', r, he, kk⟩ := q
    unfold ev at he
    split at he
    · rename_i e1
      cases he
      exact ⟨p, st, B, M, F, env, p.a, r, e1, fun q h2 => ⟨_, _, rfl, .inl ⟨_, Or.inl (Or.inl (r.bs.b _ _ h2)), rfl⟩, kk _ B H (Ex.refl B) r (by rw [List.length_map]; exact .int _)⟩⟩
    · cases he
theorem Rel.pool {K : PySem.W.Frag} {p : Pa} {st st' : Pl} {B M F : Hp} {env : List Sl} {σ : L2.St} {H : Hp} (r : Rel K p st B M F env σ H) (hq : B p.q = some (.lst (st'.ns.map V.int))) : Rel K p st' B M F env σ (upd H p (.lst [.ref p.q, .int st'.i, .int st'.r, .int st'.c, .int st'.l])) where
  bs := {
    b := r.bs.b.right r.bs.pb
    f := r.bs.f.right r.bs.pf
    d := r.bs.d
    pf := r.bs.pf
    pb := r.bs.pb
    pl := ⟨upd_same, hq⟩ }
  m := fun a o h => by
    rw [upd_ne (r.md a o h).2.2]
    exact r.m a o h
  md := r.md
  en := r.en
theorem ss_pput (n k : Nat) (h : SE Γ e i) (hN : Γ.N[n]? = some x := by rfl) (hv : Vis Γ.sc x := by first | exact Or.inl rfl | exact Or.inr (Or.inl rfl) | exact Or.inr (Or.inr rfl)) (hd : (x == ("__debug__" : Str)) = false := by decide) (hcd : (x == ("__classdict__" : Str)) = false := by decide)
    (hs : ∀ env, swapsWithSole [.Subscript (.Name x p0) (.Constant (.int (k : Int)) j0 p1) p2] e pos.line env = pure false := by intro _; rfl) (hw : ∀ env, swappedStores [.Subscript (.Name x p0) (.Constant (.int (k : Int)) j0 p1) p2] e env = pure none := by intro _; rfl)
    (h1 : ∀ env, (assignEach [.Subscript (.Name x p0) (.Constant (.int (k : Int)) j0 p1) p2] env).map (·.2) = [assign (.Subscript (.Name x p0) (.Constant (.int (k : Int)) j0 p1) p2) env] := by intro _; rfl) :
    SS Γ (.Assign [.Subscript (.Name x p0) (.Constant (.int (k : Int)) j0 p1) p2] e pos) (.pput n k i) := fun X o =>
  PS_weak (ps_asg (h X o.toOkx) (pg_sub (pe_var (i := n) (by rw [o.N]; exact hN) (by rw [o.sc]; exact hv) hd hcd) pe_int set_list) (hs _) (hw _) (h1 _)) fun D σ H q => by
    obtain ⟨p, st, B, M, F, env, out, r, he, kk⟩ := q
    unfold evS at he
    split at he
    · rename_i m st1 e1
      split at he
      · rename_i e2
        obtain ⟨st2, e3, e4⟩ := Option.map_eq_some_iff.mp he
        subst e4
        refine ⟨p, st, B, M, F, env, .int m, st1, r, e1, fun v B' H' x1 r' pv => ?_⟩
        cases pv
        obtain ⟨h3, h4⟩ := r'.bs.pl
        refine ⟨_, pl_of r' e2, p, _, (k : Int), k, rfl, rfl, h3, ?_, ?_⟩
        · match k, e3 with
          | 1, _ => rfl
          | 2, _ => rfl
          | 3, _ => rfl
          | 4, _ => rfl
        · match k, e3 with
          | 1, e3 => cases e3; exact kk B' M σ _ x1 (r'.pool (st' := { st1 with i := m }) h4)
          | 2, e3 => cases e3; exact kk B' M σ _ x1 (r'.pool (st' := { st1 with r := m }) h4)
          | 3, e3 => cases e3; exact kk B' M σ _ x1 (r'.pool (st' := { st1 with c := m }) h4)
          | 4, e3 => cases e3; exact kk B' M σ _ x1 (r'.pool (st' := { st1 with l := m }) h4)
      · cases he
    · cases he
end
end Ip

set_option Elab.async false
set_option linter.all false
set_option maxRecDepth 100000
set_option maxHeartbeats 4000000
namespace Ip
open PySem L2
def Ty.n : Ty → String
  | .int => "int"
  | .bool => "bool"
  | .str => "str"
  | .list => "list"
  | .tuple => "tuple"
def Ty.s : Ty → Str
  | .int => "int"
  | .bool => "bool"
  | .str => "str"
  | .list => "list"
  | .tuple => "tuple"
theorem ty_of {K : PySem.W.Frag} {B H : Hp} {v : V} {d : D} (x : Ex B H) (h : Rp K B v d) : ∃ a, TyX K H v (.type a) ∧ ∀ t : Ty, kitB a t.n = some (isiD t d) := by
  cases h with
  | non => exact ⟨_, .base .non, fun t => by cases t <;> first | exact (show kitB _ _ = some true by decide +kernel) | exact (show kitB _ _ = some false by decide +kernel)⟩
  | bl b => exact ⟨_, .base (.bl b), fun t => by cases t <;> first | exact (show kitB _ _ = some true by decide +kernel) | exact (show kitB _ _ = some false by decide +kernel)⟩
  | int i => exact ⟨_, .base (.int i), fun t => by cases t <;> first | exact (show kitB _ _ = some true by decide +kernel) | exact (show kitB _ _ = some false by decide +kernel)⟩
  | str s => exact ⟨_, .base (.str s), fun t => by cases t <;> first | exact (show kitB _ _ = some true by decide +kernel) | exact (show kitB _ _ = some false by decide +kernel)⟩
  | lst hx _ => exact ⟨_, .base (.lst (x _ _ hx)), fun t => by cases t <;> first | exact (show kitB _ _ = some true by decide +kernel) | exact (show kitB _ _ = some false by decide +kernel)⟩
  | tup hx _ =>
    rcases hx with (hx | ⟨o, hx⟩) | ⟨o, its, n, hk, hc, _⟩
    · exact ⟨_, .base (.tup (x _ _ hx)), fun t => by cases t <;> first | exact (show kitB _ _ = some true by decide +kernel) | exact (show kitB _ _ = some false by decide +kernel)⟩
    · exact ⟨_, .fTuple (x _ _ hx), fun t => by cases t <;> first | exact (show kitB _ _ = some true by decide +kernel) | exact (show kitB _ _ = some false by decide +kernel)⟩
    · exact ⟨_, .kTuple hk hc, fun t => by cases t <;> first | exact (show kitB _ _ = some true by decide +kernel) | exact (show kitB _ _ = some false by decide +kernel)⟩
theorem ty_blt (t : Ty) : bootBuiltins t.s = some (.type t.n) := by cases t <;> decide +kernel
theorem ty_db (t : Ty) : t.s ≠ "__name__" ∧ (t.s == ("__debug__" : Str)) = false := by cases t <;> decide
section
variable {Γ : Gam} {e : Expr} {i : IE} {pos p0 p1 : Pos}
theorem isi_se (t : Ty) (h : SE Γ e i) (hb : Γ.bs.contains "isinstance" = true := by rfl) (hg : GlS Γ.sc "isinstance" := by rfl) (ht : Γ.bs.contains t.s = true := by rfl) (htg : GlS Γ.sc t.s := by rfl)
    (hs : ∀ env, starEach [e, .Name t.s p1] env = (false, eval e env) :: starEach [.Name t.s p1] env := by intro _; rfl) : SE Γ (.Call (.Name "isinstance" p0) [e, .Name t.s p1] [] pos) (.isi t i) := fun X o =>
  PE_weak (pe_callB call_isi (o.gl hg) (o.bl _ (List.contains_iff_mem.mp hb)) (by decide +kernel) (pa_cons (h X o) (pa_cons (pe_bltn (v := .ty t.n) (o.gl htg) (o.bl _ (List.contains_iff_mem.mp ht)) (ty_blt t) rfl (ty_db t).1 (ty_db t).2) pa_nil rfl) (hs _)) (by decide) (by decide) (hs _) rfl) fun σ H Q q => by
    rw [o.K]
    obtain ⟨p, st, B, M, F, env, d, st', r, he, k⟩ := q
    unfold ev at he
    split at he
    · rename_i x st1 e1
      cases he
      refine ⟨p, st, B, M, F, env, x, _, r, e1, fun v B' H' x1 r' pv => ?_⟩
      obtain ⟨a, h1, h2⟩ := ty_of r'.bs.b pv
      exact ⟨v, .ty t.n, .type a, .type t.n, _, rfl, .ty _, h1, kit_ty (h2 t), k _ B' H' x1 r' (.bl _)⟩
    · cases he
end
end Ip

set_option Elab.async false
set_option linter.all false
set_option maxRecDepth 100000
set_option maxHeartbeats 4000000
/-! The defs of a text together; the pool's making; the law. -/
namespace Ip
open PySem L2
/-- a def as it stands behind the top -/
def Hv (K : PySem.W.Frag) (mg : Str → Option Value) (x : Str) (st : Stmt) (ps : List Str) : Prop := ∃ fa fd, FunD K x x (defArgs st) (defBody st) (defScope st) [] [] fa fd ∧ mg x = some (.ref fa) ∧ Binds K fd ps []
/-- a def that keeps what the table says of it -/
def Fo (P : Program) (w : World) (K : PySem.W.Frag) (mg : Str → Option Value) (base : Heap) (k : Nat) (cl : Cl) (f : Str) : Prop := ∃ fa fd ps, FnOk P w K mg base (L2.CX P w) k fa fd ps (spF K cl f) ∧ mg f = some (.ref fa) ∧ PySem.W.keepIn K (.ref fa) = true ∧ Binds K fd ps []
def runI (n : Nat) (cl : Cl) (I : IF) (as : List (Option D)) (st : Pl) : Option (D × Pl) := if as.length = n then runF cl I as st else none
def noCl : Cl := fun _ _ _ => none
section
variable {P : Program} {w : World} {K : PySem.W.Frag} {mg : Str → Option Value} {base : Heap}
theorem fo_zero {k : Nat} {f : Str} {st : Stmt} {ps : List Str} (h : Hv K mg f st ps) : Fo P w K mg base k noCl f := by
  obtain ⟨fa, fd, F, hm, hb⟩ := h
  have no : ∀ vs H Q E, ¬ spF K noCl f vs H Q E := fun vs H Q E q => by
    obtain ⟨_, _, _, _, _, _, _, _, _, e, _⟩ := q
    cases e
  exact ⟨fa, fd, ps, ⟨fun vs H Q E q => (no _ _ _ _ q).elim, fun A outer s H args us vs Q E _ _ _ _ q => (no _ _ _ _ q).elim⟩, hm, F.kp, hb⟩
theorem fo_step {k : Nat} {f : Str} {st : Stmt} {N ps : List Str} {Γ : Gam} {I : IF} {cl : Cl} (h : Hv K mg f st ps) (S : FnScope N ps (defScope st)) (hK : Γ.K = K) (hN : Γ.N = N) (hsc : Γ.sc = defScope st) (hb : SSs Γ (defBody st) I.body) (hn : I.n = N.length)
    (hcl : ∀ as s, cl f as s = runI ps.length Γ.cl I as s) (hfn : ∀ g ∈ Γ.fs, Fo P w K mg base k Γ.cl g) (hbl : ∀ g ∈ Γ.bs, mg g = none) : Fo P w K mg base (k + 1) cl f := by
  obtain ⟨fa, fd, F, hm, hbn⟩ := h
  refine ⟨fa, fd, ps, fn_ok F S hK hN hsc hb hn (fun as s d s' e => ?_) (fun g hg => ?_) hbl, hm, F.kp, hbn⟩
  · rw [hcl] at e
    unfold runI at e
    split at e
    · rename_i hl
      exact ⟨hl, e⟩
    · cases e
  · obtain ⟨fa, fd, ps, F1, h1, h2, h3⟩ := hfn g hg
    exact ⟨fa, fd, ps, k, Nat.le_refl k, F1, h1, h2, h3⟩
/-! ### the pool's making -/
def spPool (K : PySem.W.Frag) : Sp := fun vs H Q _ => ∃ (a : Addr) (ns : List Int), vs = [.ref a] ∧ SqL K H a (ns.map V.int) ∧ ∀ q p, H q = none → H p = none → p ≠ q → Q (.ref p) (upd (upd H q (.lst (ns.map V.int))) p (.lst [.ref q, .int 0, .int 0, .int 0, .int 0]))
theorem pool_ok {x qual : Str} {params : Arguments} {body : List Stmt} {scope : Scope} {f : Addr} {fd : FuncData} {y : Str} {p0 p1 p2 p3 p4 : Pos} {j1 j2 j3 j4 : Nat} {q1 q2 q3 q4 : Pos} (F : FunD K x qual params body scope [] [] f fd) (S : FnScope [y] [y] scope)
    (hb : body = [.Return (some (.List [.Call (.Name "list" p0) [.Name y p1] [] p2, .Constant (.int 0) j1 q1, .Constant (.int 0) j2 q2, .Constant (.int 0) j3 q3, .Constant (.int 0) j4 q4] p3)) p4])
    (hl : mg "list" = none) (hg : GlS scope "list") (hy : Vis scope y) (h1 : (y == ("__debug__" : Str)) = false) (h2 : (y == ("__classdict__" : Str)) = false) : FnOk P w K mg base (L2.CX P w) 1 f fd [y] (spPool K) := by
  subst hb
  refine F.ok S (fun vs H Q E h => ?_) (fun cdv A outer s H vs Q E hr h => ?_)
  · obtain ⟨a, ns, rfl, _⟩ := h
    rfl
  · obtain ⟨a, ns, rfl, hs, k⟩ := h
    refine ⟨_, pss_one (ps_ret (pe_lst (pa_cons (pe_callTy call_list_of hg hl (by decide +kernel) (pa_cons (pe_var (i := 0) rfl hy h1 h2) pa_nil) (by decide) (by decide)) (pa_cons pe_int (pa_cons pe_int (pa_cons pe_int (pa_cons pe_int pa_nil))))))), ?_⟩
    refine ⟨_, rfl, a, _, rfl, .inl hs, fun q hq => ⟨by show 5 ≤ sizeLine; decide, fun p hp => ?_⟩⟩
    have hpq : p ≠ q := fun e => by
      rw [e, upd_same] at hp
      cases hp
    rw [upd_ne hpq] at hp
    exact k q p hq hp hpq
/-! ### the law -/
def spLaw (K : PySem.W.Frag) : Sp := fun vs H Q _ => ∃ (a : Addr) (ns : List Int), vs = [.ref a] ∧ SqL K H a (ns.map V.int) ∧ ns.length ≤ 63 ∧ ∀ H', Q (.bl true) H'
def pl0 (ns : List Int) : Pl := ⟨ns, 0, 0, 0, 0⟩
/-- what the law's rows behind the pool's come to, at a script -/
def lawRun (cl : Cl) (n : Nat) (b : ISs) (ns : List Int) : Option Out := evSs cl b (.no :: .pl :: List.replicate (n - 2) .no) (pl0 ns)
theorem law_ok {x qual : Str} {params : Arguments} {scope : Scope} {f : Addr} {fd : FuncData} {y z pn : Str} {N : List Str} {k : Nat} {Γ : Gam} {I : IF} {rest : List Stmt} {p0 p1 p2 p3 p4 : Pos} {fp : Addr} {fdp : FuncData} {yp : Str}
    (F : FunD K x qual params (.Assign [.Name z p0] (.Call (.Name pn p1) [.Name y p2] [] p3) p4 :: rest) scope [] [] f fd) (S : FnScope (y :: z :: N) [y] scope)
    (hK : Γ.K = K) (hN : Γ.N = y :: z :: N) (hsc : Γ.sc = scope) (hb : SSs Γ rest I.body) (hn : I.n = N.length + 2) (hfn : ∀ g ∈ Γ.fs, Fo P w K mg base (k + 1) Γ.cl g) (hbl : ∀ g ∈ Γ.bs, mg g = none)
    (Fp : FnOk P w K mg base (L2.CX P w) 1 fp fdp [yp] (spPool K)) (hp : mg pn = some (.ref fp)) (hkp : PySem.W.keepIn K (.ref fp) = true) (hbp : Binds K fdp [yp] []) (hgp : GlS scope pn) (hy : Vis scope y) (hz : Loc scope z)
    (hd : (pn == ("__debug__" : Str)) = false) (h1 : (y == ("__debug__" : Str)) = false) (h2 : (y == ("__classdict__" : Str)) = false)
    (true_ : ∀ ns : List Int, ns.length ≤ 63 → ∃ st, lawRun Γ.cl I.n I.body ns = some (.rt (.bool true) st)) : FnOk P w K mg base (L2.CX P w) (k + 2) f fd [y] (spLaw K) := by
  refine F.ok S (fun vs H Q E h => ?_) (fun cdv A outer s H vs Q E hr h => ?_)
  · obtain ⟨a, ns, rfl, _⟩ := h
    rfl
  · obtain ⟨a, ns, rfl, hs, hl, kk⟩ := h
    have ok : Oks Γ (cxOf (L2.CX P w) P w K mg base (y :: z :: N) qual scope f cdv A outer s H E) := {
      K := hK.symm
      N := hN.symm
      nd := by rw [hN]; exact S.nd
      sc := hsc.symm
      calm := rfl
      units := by
        have h := hr.un
        show (A.deeper (PyProof.Rows.envOfC qual scope s.heap.objs.size f cdv)).units + 100 < cLine
        omega
      fn := fun g hg => by
        obtain ⟨fa, fd, ps, F1, h1, h2, h3⟩ := hfn g hg
        rw [hK]
        exact ⟨fa, fd, ps, _, F1, h1, h2, h3, hr⟩
      bl := hbl
      own := passes_of rfl
      fnx := fun _ => rfl }
    refine ⟨_, pss_cons (ps_set (i := 1) S.nd rfl hz (pe_call Fp (hr.mono (by omega)) hgp hp hkp hbp .nil L2.passL (pa_cons (pe_var (i := 0) rfl hy h1 h2) pa_nil) hd)) (hb _ ok), ?_⟩
    refine ⟨_, rfl, a, ns, rfl, hs, fun q p hq hp hpq => ?_⟩
    obtain ⟨st, ht⟩ := true_ ns hl
    unfold lawRun at ht
    rw [hn] at ht
    have ht' : evSs Γ.cl I.body (.no :: .pl :: List.replicate N.length .no) (pl0 ns) = some (.rt (.bool true) st) := ht
    rw [hK]
    refine ⟨⟨p, q⟩, pl0 ns, upd (fun _ => none) q (.lst (ns.map V.int)), fun _ => none, fun _ => none, .no :: .pl :: List.replicate N.length .no, _, ?_, ht', fun v B' H' x r pv => ?_⟩
    · refine ⟨⟨fun c u e => ?_, fun c u e => by (cases e), fun c u e => by (cases e), rfl, ?_, upd_same, upd_same⟩, fun c u e => by (cases e), fun c u e => by (cases e), ?_⟩
      · by_cases hc : c = q
        · subst hc
          rw [upd_same] at e
          rw [← e, upd_ne hpq.symm, upd_same]
        · rw [upd_ne hc] at e
          cases e
      · rw [upd_ne hpq]
      · refine ⟨?_, fun i s hi => ?_, fun i j ds es b hi _ _ _ => ?_⟩
        · simp [L2.start]
        · match i, hi with
          | 0, hi =>
            cases hi
            exact ⟨some (.ref a), rfl, True.intro⟩
          | 1, hi =>
            cases hi
            exact ⟨some (.ref p), rfl, rfl⟩
          | i + 2, hi =>
            have hi2 : (List.replicate N.length Sl.no)[i]? = some s := hi
            rw [List.getElem?_replicate] at hi2
            split at hi2
            · rename_i hlt
              cases hi2
              refine ⟨none, ?_, True.intro⟩
              show (List.replicate N.length (none : Option V))[i]? = some none
              rw [List.getElem?_replicate, if_pos hlt]
            · cases hi2
        · match i, hi with
          | 0, hi => cases hi
          | 1, hi => cases hi
          | i + 2, hi =>
            have hi2 : (List.replicate N.length Sl.no)[i]? = some (.ow ds) := hi
            rw [List.getElem?_replicate] at hi2
            split at hi2 <;> cases hi2
    · cases pv
      exact kk H'
/-- a def that lets nothing out -/
theorem quiet_fn {k : Nat} {f : Addr} {fd : FuncData} {ps : List Str} {sp : Sp} (F : FnOk P w K mg base (L2.CX P w) k f fd ps sp) (h : ∀ vs H Q E, sp vs H Q E → sp vs H Q E0) : FnOk P w K mg base CX0 k f fd ps sp :=
  ⟨F.len, fun A outer s H args us vs Q E hr e0 hb hv hs => codeAny_mono (F.run A outer s H args us vs Q E0 hr e0 hb hv (h _ _ _ _ hs)) fun r s' q => by
    cases r with
    | ok fl => cases fl <;> exact q
    | error e =>
      obtain ⟨_, _, _, _, _, _, _, _, _, _, _, _, z⟩ := q
      exact z.elim⟩
end
end Ip

set_option Elab.async false
set_option linter.all false
set_option maxRecDepth 100000
set_option maxHeartbeats 4000000
namespace Ip
open PySem L2
/-! One step of the evaluator, each form by its own rule. -/
def fb (cl : Cl) (j : Sg) (b : ISs) : D → List Sl → Pl → Option Out := fun d env st => match sgD j d env with
  | some env1 => evSs cl b env1 st
  | none => none
theorem fb_eq (cl : Cl) (j : Sg) (b : ISs) (d : D) (env : List Sl) (st : Pl) : fb cl j b d env st = match sgD j d env with
  | some env1 => evSs cl b env1 st
  | none => none := id rfl
def lb (cl : Cl) (j : Nat) (cs : IEs) (e : IE) (env : List Sl) : D → Pl → Option (Option D × Pl) := fun d st => match et cl cs (env.set j (.im d)) st with
  | some (true, st2) => (match ev cl e (env.set j (.im d)) st2 with
    | some (y, st3) => some (some y, st3)
    | none => none)
  | some (false, st2) => some (none, st2)
  | none => none
theorem lb_eq (cl : Cl) (j : Nat) (cs : IEs) (e : IE) (env : List Sl) (d : D) (st : Pl) : lb cl j cs e env d st = match et cl cs (env.set j (.im d)) st with
  | some (true, st2) => (match ev cl e (env.set j (.im d)) st2 with
    | some (y, st3) => some (some y, st3)
    | none => none)
  | some (false, st2) => some (none, st2)
  | none => none := id rfl
variable {cl : Cl}
@[simp] theorem q_ev_1 {i} {env : List Sl} {st : Pl} : ev cl (.var i : IE) env st = (match env[i]? with
    | some (.im d) => some (d, st)
    | _ => none) := id rfl
@[simp] theorem q_ev_2 {c} {env : List Sl} {st : Pl} : ev cl (.cst c : IE) env st = some (c.d, st) := id rfl
@[simp] theorem q_ev_3 {f as} {env : List Sl} {st : Pl} : ev cl (.call f as : IE) env st = (match ag cl as env st with
    | some (ds, st1) => cl f ds st1
    | none => none) := id rfl
@[simp] theorem q_ev_4 {f as} {env : List Sl} {st : Pl} : ev cl (.bi f as : IE) env st = (match ea cl as env st with
    | some (ds, st1) => (biD f ds).map fun d => (d, st1)
    | none => none) := id rfl
@[simp] theorem q_ev_5 {o a b} {env : List Sl} {st : Pl} : ev cl (.bin o a b : IE) env st = (match ev cl a env st with
    | some (x, st1) => (match ev cl b env st1 with
      | some (y, st2) => (binD o x y).map fun d => (d, st2)
      | none => none)
    | none => none) := id rfl
@[simp] theorem q_ev_6 {o a b} {env : List Sl} {st : Pl} : ev cl (.cmp o a b : IE) env st = (match ev cl a env st with
    | some (x, st1) => (match ev cl b env st1 with
      | some (y, st2) => (cmpD o x y).map fun d => (.bool d, st2)
      | none => none)
    | none => none) := id rfl
@[simp] theorem q_ev_7 {a b} {env : List Sl} {st : Pl} : ev cl (.and a b : IE) env st = (match ev cl a env st with
    | some (.bool true, st1) => ev cl b env st1
    | some (.bool false, st1) => some (.bool false, st1)
    | _ => none) := id rfl
@[simp] theorem q_ev_8 {a b} {env : List Sl} {st : Pl} : ev cl (.or a b : IE) env st = (match ev cl a env st with
    | some (.bool true, st1) => some (.bool true, st1)
    | some (.bool false, st1) => ev cl b env st1
    | _ => none) := id rfl
@[simp] theorem q_ev_9 {a} {env : List Sl} {st : Pl} : ev cl (.not a : IE) env st = (match ev cl a env st with
    | some (.bool b, st1) => some (.bool (!b), st1)
    | _ => none) := id rfl
@[simp] theorem q_ev_10 {a} {env : List Sl} {st : Pl} : ev cl (.neg a : IE) env st = (match ev cl a env st with
    | some (.int i, st1) => some (.int (-i), st1)
    | _ => none) := id rfl
@[simp] theorem q_ev_11 {es} {env : List Sl} {st : Pl} : ev cl (.tup es : IE) env st = (match ea cl es env st with
    | some (ds, st1) => if ds.length ≤ most then some (.tuple ds, st1) else none
    | none => none) := id rfl
@[simp] theorem q_ev_12 {es} {env : List Sl} {st : Pl} : ev cl (.lst es : IE) env st = (match ea cl es env st with
    | some (ds, st1) => if ds.length ≤ most then some (.list ds, st1) else none
    | none => none) := id rfl
@[simp] theorem q_ev_13 {a b} {env : List Sl} {st : Pl} : ev cl (.ix a b : IE) env st = (match ev cl a env st with
    | some (x, st1) => (match ev cl b env st1 with
      | some (y, st2) => (ixD x y).map fun d => (d, st2)
      | none => none)
    | none => none) := id rfl
@[simp] theorem q_ev_14 {a lo hi} {env : List Sl} {st : Pl} : ev cl (.sl a lo hi : IE) env st = (match ev cl a env st with
    | some (x, st1) => (match eo cl lo env st1 with
      | some (l, st2) => (match eo cl hi env st2 with
        | some (h, st3) => (slD x l h).map fun d => (d, st3)
        | none => none)
      | none => none)
    | none => none) := id rfl
@[simp] theorem q_ev_15 {c a b} {env : List Sl} {st : Pl} : ev cl (.ifx c a b : IE) env st = (match ev cl c env st with
    | some (.bool true, st1) => ev cl a env st1
    | some (.bool false, st1) => ev cl b env st1
    | _ => none) := id rfl
@[simp] theorem q_ev_16 {j it cs e} {env : List Sl} {st : Pl} : ev cl (.lc j it cs e : IE) env st = (match ei cl it env st with
    | some (ds, st1) => if ds.length ≤ most then (match lcG (lb cl j cs e env) ds st1 with
      | some (ys, st4) => some (.list ys, st4)
      | none => none) else none
    | none => none) := id rfl
@[simp] theorem q_ev_17 {i} {env : List Sl} {st : Pl} : ev cl (.olen i : IE) env st = (match env[i]? with
    | some (.ow ds) => some (.int ds.length, st)
    | some (.im d) => (biD .len [d]).map fun z => (z, st)
    | _ => none) := id rfl
@[simp] theorem q_ev_18 {i k} {env : List Sl} {st : Pl} : ev cl (.pix i k : IE) env st = (match env[i]? with
    | some .pl => (st.at_ k).map fun n => (.int n, st)
    | _ => none) := id rfl
@[simp] theorem q_ev_19 {i} {env : List Sl} {st : Pl} : ev cl (.pcel i : IE) env st = (match env[i]? with
    | some .pl => (atI st.ns st.i).map fun n => (.int n, st)
    | _ => none) := id rfl
@[simp] theorem q_ev_20 {t e} {env : List Sl} {st : Pl} : ev cl (.isi t e : IE) env st = (match ev cl e env st with
    | some (x, st1) => some (.bool (isiD t x), st1)
    | none => none) := id rfl
@[simp] theorem q_ev_21 {i} {env : List Sl} {st : Pl} : ev cl (.plen i : IE) env st = (match env[i]? with
    | some .pl => some (.int st.ns.length, st)
    | _ => none) := id rfl
@[simp] theorem q_ea_22  {env : List Sl} {st : Pl} : ea cl (.nil : IEs) env st = some ([], st) := id rfl
@[simp] theorem q_ea_23 {e es} {env : List Sl} {st : Pl} : ea cl (.cons e es : IEs) env st = (match ev cl e env st with
    | some (x, st1) => (match ea cl es env st1 with
      | some (xs, st2) => some (x :: xs, st2)
      | none => none)
    | none => none) := id rfl
@[simp] theorem q_ea_24 {u1 u2} {env : List Sl} {st : Pl} : ea cl (.pool u1 u2 : IEs) env st = none := id rfl
@[simp] theorem q_ag_25  {env : List Sl} {st : Pl} : ag cl (.nil : IEs) env st = some ([], st) := id rfl
@[simp] theorem q_ag_26 {e es} {env : List Sl} {st : Pl} : ag cl (.cons e es : IEs) env st = (match ev cl e env st with
    | some (x, st1) => (match ag cl es env st1 with
      | some (xs, st2) => some (some x :: xs, st2)
      | none => none)
    | none => none) := id rfl
@[simp] theorem q_ag_27 {i es} {env : List Sl} {st : Pl} : ag cl (.pool i es : IEs) env st = (match env[i]? with
    | some .pl => (match ag cl es env st with
      | some (xs, st2) => some (none :: xs, st2)
      | none => none)
    | _ => none) := id rfl
@[simp] theorem q_et_28  {env : List Sl} {st : Pl} : et cl (.nil : IEs) env st = some (true, st) := id rfl
@[simp] theorem q_et_29 {e es} {env : List Sl} {st : Pl} : et cl (.cons e es : IEs) env st = (match ev cl e env st with
    | some (.bool true, st1) => et cl es env st1
    | some (.bool false, st1) => some (false, st1)
    | _ => none) := id rfl
@[simp] theorem q_et_30 {u1 u2} {env : List Sl} {st : Pl} : et cl (.pool u1 u2 : IEs) env st = none := id rfl
@[simp] theorem q_eo_31  {env : List Sl} {st : Pl} : eo cl (.non : IO) env st = some (none, st) := id rfl
@[simp] theorem q_eo_32 {e} {env : List Sl} {st : Pl} : eo cl (.some e : IO) env st = (match ev cl e env st with
    | some (.int i, st1) => some (some i, st1)
    | _ => none) := id rfl
@[simp] theorem q_ei_33 {e} {env : List Sl} {st : Pl} : ei cl (.seq e : IT) env st = (match ev cl e env st with
    | some (x, st1) => (itD x).map fun xs => (xs, st1)
    | none => none) := id rfl
@[simp] theorem q_ei_34 {e} {env : List Sl} {st : Pl} : ei cl (.rng1 e : IT) env st = (match ev cl e env st with
    | some (.int n, st1) => (rngD 0 n).map fun xs => (xs, st1)
    | _ => none) := id rfl
@[simp] theorem q_ei_35 {a b} {env : List Sl} {st : Pl} : ei cl (.rng2 a b : IT) env st = (match ev cl a env st with
    | some (.int lo, st1) => (match ev cl b env st1 with
      | some (.int hi, st2) => (rngD lo hi).map fun xs => (xs, st2)
      | _ => none)
    | _ => none) := id rfl
@[simp] theorem q_evS_36 {i e} {env : List Sl} {st : Pl} : evS cl (.set i e : IS) env st = (match ev cl e env st with
    | some (x, st1) => some (.nx (env.set i (.im x)) st1)
    | none => none) := id rfl
@[simp] theorem q_evS_37 {i e} {env : List Sl} {st : Pl} : evS cl (.own i e : IS) env st = (match ev cl e env st with
    | some (.list xs, st1) => some (.nx (env.set i (.ow xs)) st1)
    | _ => none) := id rfl
@[simp] theorem q_evS_38 {js e} {env : List Sl} {st : Pl} : evS cl (.unp js e : IS) env st = (match ev cl e env st with
    | some (x, st1) => (sgD (.many js) x env).map fun env1 => .nx env1 st1
    | none => none) := id rfl
@[simp] theorem q_evS_39 {i e} {env : List Sl} {st : Pl} : evS cl (.app i e : IS) env st = (match ev cl e env st with
    | some (x, st1) => (match env[i]? with
      | some (.ow ds) => if ds.length < most then some (.nx (env.set i (.ow (ds ++ [x]))) st1) else none
      | _ => none)
    | none => none) := id rfl
@[simp] theorem q_evS_40 {i e} {env : List Sl} {st : Pl} : evS cl (.ext i e : IS) env st = (match ev cl e env st with
    | some (.list xs, st1) => (match env[i]? with
        | some (.ow ds) => if ds.length + xs.length ≤ most then some (.nx (env.set i (.ow (ds ++ xs))) st1) else none
        | _ => none)
    | _ => none) := id rfl
@[simp] theorem q_evS_41 {i k e} {env : List Sl} {st : Pl} : evS cl (.pput i k e : IS) env st = (match ev cl e env st with
    | some (.int n, st1) => (match env[i]? with
      | some .pl => (st1.put n k).map fun st2 => .nx env st2
      | _ => none)
    | _ => none) := id rfl
@[simp] theorem q_evS_42 {c a b} {env : List Sl} {st : Pl} : evS cl (.iff c a b : IS) env st = (match ev cl c env st with
    | some (.bool true, st1) => evSs cl a env st1
    | some (.bool false, st1) => evSs cl b env st1
    | _ => none) := id rfl
@[simp] theorem q_evS_43 {j it b} {env : List Sl} {st : Pl} : evS cl (.forr j it b : IS) env st = (match ei cl it env st with
    | some (ds, st1) => forG (fb cl j b) ds env st1
    | none => none) := id rfl
@[simp] theorem q_evS_44 {e} {env : List Sl} {st : Pl} : evS cl (.ret e : IS) env st = (match ev cl e env st with
    | some (x, st1) => some (.rt x st1)
    | none => none) := id rfl
@[simp] theorem q_evS_45  {env : List Sl} {st : Pl} : evS cl (.retN : IS) env st = some (.rt .none st) := id rfl
@[simp] theorem q_evS_46 {e} {env : List Sl} {st : Pl} : evS cl (.drop e : IS) env st = (match ev cl e env st with
    | some (_, st1) => some (.nx env st1)
    | none => none) := id rfl
@[simp] theorem q_evS_47  {env : List Sl} {st : Pl} : evS cl (.brk : IS) env st = some (.bk env st) := id rfl
@[simp] theorem q_evS_48  {env : List Sl} {st : Pl} : evS cl (.cnt : IS) env st = some (.ct env st) := id rfl
@[simp] theorem q_evS_49 {is s} {env : List Sl} {st : Pl} : evS cl (.frz is s : IS) env st = evS cl s (frzE env is) st := id rfl
@[simp] theorem q_evSs_50  {env : List Sl} {st : Pl} : evSs cl (.nil : ISs) env st = some (.nx env st) := id rfl
@[simp] theorem q_evSs_51 {s r} {env : List Sl} {st : Pl} : evSs cl (.cons s r : ISs) env st = (match evS cl s env st with
    | some (.nx env1 st1) => evSs cl r env1 st1
    | some o => some o
    | none => none) := id rfl
@[simp] theorem q_lent {is : List Nat} {e : IE} {env : List Sl} {st : Pl} : ev cl (.lent is e : IE) env st = (match ev cl e (frzE env is) st with
    | some (x, st1) => if flatD x = true then some (x, st1) else none
    | none => none) := id rfl
@[simp] theorem eqv_int (i j : Int) : PyData.eqv (.int i) (.int j) = decide (i = j) := by simp [PyData.eqv]; rfl
@[simp] theorem eqv_str (s t : Str) : PyData.eqv (.str s) (.str t) = decide (s = t) := by simp [PyData.eqv]; rfl
end Ip

set_option Elab.async false
set_option linter.all false
set_option maxRecDepth 100000
set_option maxHeartbeats 4000000
namespace Cm
open PySem Ip
/-! Helpers that several texts share, in short. -/
def I_law_mixed : IF := ⟨6, (.cons (.set 3 (.bin .mod (.bi .int (.cons (.bin .add (.bin .add (.bin .mul (.var 0) (.cst (.int 48271))) (.bin .mul (.var 1) (.cst (.int 69621)))) (.cst (.int 11))) .nil)) (.cst (.int 2147483647))))
  (.cons (.set 4 (.bin .mod (.bi .int (.cons (.bin .add (.bin .add (.bin .mul (.var 3) (.cst (.int 40692))) (.bin .mul (.var 0) (.cst (.int 16807)))) (.bin .mul (.var 1) (.cst (.int 30269)))) .nil)) (.cst (.int 2147483399))))
  (.cons (.set 5 (.bin .mod (.bi .int (.cons (.bin .add (.bin .mul (.var 4) (.cst (.int 39373))) (.bin .fdv (.var 3) (.cst (.int 7)))) .nil)) (.cst (.int 1000000007))))
  (.cons (.ret (.bin .mod (.bi .int (.cons (.var 5) .nil)) (.var 2)))
  .nil))))⟩
def I_law_draw : IF := ⟨4, (.cons (.iff (.cmp .gt (.pix 0 2) (.cst (.int 0))) (.cons (.set 2 (.bin .mod (.bi .int (.cons (.pix 0 2) .nil)) (.var 1)))
  (.cons (.pput 0 2 (.bin .fdv (.pix 0 2) (.var 1)))
  (.cons (.ret (.var 2))
  .nil))) .nil)
  (.cons (.iff (.cmp .gt (.pix 0 4) (.cst (.int 0))) (.cons (.pput 0 4 (.bin .sub (.pix 0 4) (.cst (.int 1))))
  (.cons (.ret (.call "_law_mixed" (.cons (.pix 0 3) (.cons (.pix 0 4) (.cons (.var 1) .nil)))))
  .nil)) .nil)
  (.cons (.iff (.cmp .ge (.pix 0 1) (.plen 0)) (.cons (.ret (.cst (.int 0)))
  .nil) .nil)
  (.cons (.set 3 (.pcel 0))
  (.cons (.pput 0 1 (.bin .add (.pix 0 1) (.cst (.int 1))))
  (.cons (.iff (.cmp .lt (.var 3) (.cst (.int 0))) (.cons (.set 3 (.bin .sub (.neg (.cst (.int 1))) (.var 3)))
  .nil) .nil)
  (.cons (.iff (.cmp .ge (.var 3) (.bin .pow (.cst (.int 10)) (.cst (.int 18)))) (.cons (.pput 0 2 (.bin .fdv (.var 3) (.var 1)))
  (.cons (.ret (.bin .mod (.bi .int (.cons (.var 3) .nil)) (.var 1)))
  .nil)) .nil)
  (.cons (.pput 0 3 (.var 3))
  (.cons (.pput 0 4 (.cst (.int 7)))
  (.cons (.ret (.call "_law_mixed" (.cons (.var 3) (.cons (.cst (.int 7)) (.cons (.var 1) .nil)))))
  .nil))))))))))⟩
def I_law_kinds : IF := ⟨0, (.cons (.ret (.lst (.cons (.cst (.str "any")) (.cons (.cst (.str "num")) (.cons (.cst (.str "nat")) (.cons (.cst (.str "small")) (.cons (.cst (.str "digit")) (.cons (.cst (.str "bit")) (.cons (.cst (.str "word")) .nil)))))))))
  .nil)⟩
def I_law_word : IF := ⟨6, (.cons (.set 4 (.ix (.var 1) (.call "_law_draw" (.pool 0 (.cons (.bi .len (.cons (.var 1) .nil)) .nil)))))
  (.cons (.forr (.one 5) (.rng1 (.var 3)) (.cons (.set 4 (.bin .add (.var 4) (.ix (.var 2) (.call "_law_draw" (.pool 0 (.cons (.bi .len (.cons (.var 2) .nil)) .nil))))))
  .nil))
  (.cons (.ret (.var 4))
  .nil)))⟩
def I_law_fresh : IF := ⟨6, (.cons (.set 2 (.cst (.str "abcdefghijklmnopqrstuvwxyz")))
  (.cons (.set 3 (.call "_law_draw" (.pool 0 (.cons (.cst (.int 3)) .nil))))
  (.cons (.iff (.cmp .eq (.var 3) (.cst (.int 2))) (.cons (.set 3 (.call "_law_draw" (.pool 0 (.cons (.cst (.int 6)) .nil))))
  .nil) .nil)
  (.cons (.set 4 (.call "_law_word" (.pool 0 (.cons (.var 2) (.cons (.bin .add (.var 2) (.cst (.str "0123456789"))) (.cons (.var 3) .nil))))))
  (.cons (.forr (.one 5) (.rng1 (.cst (.int 60))) (.cons (.iff (.and (.cmp .notin (.var 4) (.var 1)) (.and (.cmp .notin (.var 4) (.call "_law_kinds" .nil)) (.cmp .notin (.var 4) (.lst (.cons (.cst (.str "lent")) (.cons (.cst (.str "main")) .nil)))))) (.cons (.ret (.var 4))
  .nil) .nil)
  (.cons (.set 4 (.bin .add (.sl (.var 4) .non (.some (.cst (.int 4)))) (.bi .str (.cons (.var 5) .nil))))
  .nil)))
  (.cons (.ret (.var 4))
  .nil))))))⟩
def I_law_literal : IF := ⟨3, (.cons (.set 1 (.call "_law_draw" (.pool 0 (.cons (.cst (.int 5)) .nil))))
  (.cons (.iff (.cmp .eq (.var 1) (.cst (.int 0))) (.cons (.ret (.call "_law_draw" (.pool 0 (.cons (.cst (.int 2)) .nil))))
  .nil) .nil)
  (.cons (.iff (.cmp .eq (.var 1) (.cst (.int 1))) (.cons (.ret (.bin .sub (.call "_law_draw" (.pool 0 (.cons (.cst (.int 199)) .nil))) (.cst (.int 99))))
  .nil) .nil)
  (.cons (.iff (.cmp .eq (.var 1) (.cst (.int 2))) (.cons (.ret (.ix (.lst (.cons (.neg (.cst (.int 10))) (.cons (.neg (.cst (.int 9))) (.cons (.neg (.cst (.int 1))) (.cons (.cst (.int 2)) (.cons (.cst (.int 9)) (.cons (.cst (.int 10)) .nil))))))) (.call "_law_draw" (.pool 0 (.cons (.cst (.int 6)) .nil)))))
  .nil) .nil)
  (.cons (.iff (.cmp .eq (.var 1) (.cst (.int 3))) (.cons (.ret (.call "_law_draw" (.pool 0 (.cons (.cst (.int 10)) .nil))))
  .nil) .nil)
  (.cons (.set 2 (.cst (.str "abcdefghijklmnopqrstuvwxyz")))
  (.cons (.ret (.call "_law_word" (.pool 0 (.cons (.var 2) (.cons (.var 2) (.cons (.call "_law_draw" (.pool 0 (.cons (.cst (.int 6)) .nil))) .nil))))))
  .nil)))))))⟩
def I_law_kind : IF := ⟨1, (.cons (.iff (.cmp .eq (.call "_law_draw" (.pool 0 (.cons (.cst (.int 2)) .nil))) (.cst (.int 0))) (.cons (.ret (.cst .non))
  .nil) .nil)
  (.cons (.ret (.ix (.call "_law_kinds" .nil) (.call "_law_draw" (.pool 0 (.cons (.cst (.int 7)) .nil)))))
  .nil))⟩
def I_law_is_int : IF := ⟨1, (.cons (.ret (.and (.isi .int (.var 0)) (.not (.isi .bool (.var 0)))))
  .nil)⟩
def I_law_same : IF := ⟨3, (.cons (.iff (.cmp .isN (.var 1) (.cst .non)) (.cons (.ret (.cmp .isN (.var 0) (.cst .non)))
  .nil) .nil)
  (.cons (.iff (.isi .bool (.var 1)) (.cons (.ret (.and (.isi .bool (.var 0)) (.cmp .eq (.var 0) (.var 1))))
  .nil) .nil)
  (.cons (.iff (.isi .int (.var 1)) (.cons (.ret (.and (.call "_law_is_int" (.cons (.var 0) .nil)) (.cmp .eq (.var 0) (.var 1))))
  .nil) .nil)
  (.cons (.iff (.isi .str (.var 1)) (.cons (.ret (.and (.isi .str (.var 0)) (.cmp .eq (.var 0) (.var 1))))
  .nil) .nil)
  (.cons (.iff (.and (.isi .list (.var 1)) (.not (.isi .list (.var 0)))) (.cons (.ret (.cst (.bl false)))
  .nil) .nil)
  (.cons (.iff (.and (.isi .tuple (.var 1)) (.not (.isi .tuple (.var 0)))) (.cons (.ret (.cst (.bl false)))
  .nil) .nil)
  (.cons (.iff (.cmp .ne (.bi .len (.cons (.var 0) .nil)) (.bi .len (.cons (.var 1) .nil))) (.cons (.ret (.cst (.bl false)))
  .nil) .nil)
  (.cons (.forr (.one 2) (.rng1 (.bi .len (.cons (.var 1) .nil))) (.cons (.iff (.not (.call "_law_same" (.cons (.ix (.var 0) (.var 2)) (.cons (.ix (.var 1) (.var 2)) .nil)))) (.cons (.ret (.cst (.bl false)))
  .nil) .nil)
  .nil))
  (.cons (.ret (.cst (.bl true)))
  .nil)))))))))⟩
end Cm

set_option Elab.async false
set_option linter.all false
set_option maxRecDepth 100000
set_option maxHeartbeats 4000000
namespace Cm
open PySem Ip L2
/-! What the helpers come to. -/
structure Pok (s : Pl) : Prop where
  i0 : 0 ≤ s.i
  c0 : 0 ≤ s.c
  c1 : s.c < 10 ^ 18
  l1 : s.l ≤ 7
def MixedOk (cl : Cl) : Prop := ∀ (c t lim : Int) (st : Pl), 0 ≤ c → c < 10 ^ 18 → 0 ≤ t → t ≤ 7 → 0 < lim → ∃ r, cl "_law_mixed" [some (.int c), some (.int t), some (.int lim)] st = some (.int r, st) ∧ 0 ≤ r ∧ r < lim
def DrawOk (cl : Cl) : Prop := ∀ (lim : Int) (st : Pl), Pok st → 0 < lim → lim < 1073741824 → ∃ r st', cl "_law_draw" [none, some (.int lim)] st = some (.int r, st') ∧ 0 ≤ r ∧ r < lim ∧ Pok st'
theorem mixed_run (cl : Cl) (c t lim : Int) (st : Pl) (h0 : 0 ≤ c) (h1 : c < 10 ^ 18) (h2 : 0 ≤ t) (h3 : t ≤ 7) (h4 : 0 < lim) : ∃ r, runI 3 cl I_law_mixed [some (.int c), some (.int t), some (.int lim)] st = some (.int r, st) ∧ 0 ≤ r ∧ r < lim := by
  have g1 : c.natAbs < 2 ^ 64 := by omega
  have g2 : t.natAbs < 2 ^ 64 := by omega
  simp [runI, runF, I_law_mixed, evSs, evS, ev, ea, slOf, binD, biD, Cst.d, g1, g2, h4]
  exact ⟨Int.emod_nonneg _ (by omega), Int.emod_lt_of_pos _ h4⟩
theorem draw_run {cl : Cl} (hm : MixedOk cl) (lim : Int) (st : Pl) (h : Pok st) (h0 : 0 < lim) (h1 : lim < 1073741824) : ∃ r st', runI 2 cl I_law_draw [none, some (.int lim)] st = some (.int r, st') ∧ 0 ≤ r ∧ r < lim ∧ Pok st' := by
  obtain ⟨ns, i, r, c, l⟩ := st
  obtain ⟨i0, c0, c1, l1⟩ := h
  simp only at i0 c0 c1 l1
  by_cases hr : 0 < r
  · refine ⟨r % lim, ⟨ns, i, r / lim, c, l⟩, ?_, Int.emod_nonneg _ (by omega), Int.emod_lt_of_pos _ h0, i0, c0, c1, l1⟩
    simp [runI, runF, I_law_draw, evSs, evS, ev, ea, ag, slOf, binD, biD, cmpD, Cst.d, Pl.at_, Pl.put, hr, h0, h1]
  · by_cases hl : 0 < l
    · obtain ⟨q, e, q0, q1⟩ := hm c (l - 1) lim ⟨ns, i, r, c, l - 1⟩ c0 c1 (by omega) (by omega) h0
      refine ⟨q, ⟨ns, i, r, c, l - 1⟩, ?_, q0, q1, i0, c0, c1, by show l - 1 ≤ 7; omega⟩
      simp [runI, runF, I_law_draw, evSs, evS, ev, ea, ag, slOf, binD, biD, cmpD, Cst.d, Pl.at_, Pl.put, hr, hl, h0, h1, e]
    · by_cases hi : (ns.length : Int) ≤ i
      · refine ⟨0, ⟨ns, i, r, c, l⟩, ?_, Int.le_refl 0, h0, i0, c0, c1, l1⟩
        simp [runI, runF, I_law_draw, evSs, evS, ev, ea, ag, slOf, binD, biD, cmpD, Cst.d, Pl.at_, Pl.put, hr, hl, h0, h1, hi]
      · have hlt : i.toNat < ns.length := by omega
        have ha : atI ns i = some ns[i.toNat] := by
          unfold atI ixN
          rw [if_pos i0, if_pos (by omega)]
          show ns[i.toNat]? = _
          exact List.getElem?_eq_getElem hlt
        generalize hx : ns[i.toNat] = x at ha
        have key : ∀ y : Int, 0 ≤ y → (if x < 0 then -1 - x else x) = y → ∃ r' st', runI 2 cl I_law_draw [none, some (.int lim)] ⟨ns, i, r, c, l⟩ = some (.int r', st') ∧ 0 ≤ r' ∧ r' < lim ∧ Pok st' := fun y y0 ey => by
          by_cases hy : (10 : Int) ^ 18 ≤ y
          · by_cases hn : x < 0
            · rw [if_pos hn] at ey
              have hy2 : (1000000000000000000 : Int) ≤ -1 - x := by omega
              refine ⟨(-1 - x) % lim, ⟨ns, i + 1, (-1 - x) / lim, c, l⟩, ?_, Int.emod_nonneg _ (by omega), Int.emod_lt_of_pos _ h0, by show 0 ≤ i + 1; omega, c0, c1, l1⟩
              simp [runI, runF, I_law_draw, evSs, evS, ev, ea, ag, slOf, binD, biD, cmpD, Cst.d, Pl.at_, Pl.put, hr, hl, h0, h1, hi, ha, hn, hy2]
            · rw [if_neg hn] at ey
              have hy2 : (1000000000000000000 : Int) ≤ x := by omega
              refine ⟨x % lim, ⟨ns, i + 1, x / lim, c, l⟩, ?_, Int.emod_nonneg _ (by omega), Int.emod_lt_of_pos _ h0, by show 0 ≤ i + 1; omega, c0, c1, l1⟩
              simp [runI, runF, I_law_draw, evSs, evS, ev, ea, ag, slOf, binD, biD, cmpD, Cst.d, Pl.at_, Pl.put, hr, hl, h0, h1, hi, ha, hn, hy2]
          · obtain ⟨q, e, q0, q1⟩ := hm y 7 lim ⟨ns, i + 1, r, y, 7⟩ y0 (by omega) (by omega) (by omega) h0
            by_cases hn : x < 0
            · rw [if_pos hn] at ey
              subst ey
              have hy2 : ¬ (1000000000000000000 : Int) ≤ -1 - x := by omega
              refine ⟨q, ⟨ns, i + 1, r, -1 - x, 7⟩, by simp [runI, runF, I_law_draw, evSs, evS, ev, ea, ag, slOf, binD, biD, cmpD, Cst.d, Pl.at_, Pl.put, hr, hl, h0, h1, hi, ha, hn, hy2, e], q0, q1, by show 0 ≤ i + 1; omega, y0, by show -1 - x < 10 ^ 18; omega, by show (7 : Int) ≤ 7; omega⟩
            · rw [if_neg hn] at ey
              subst ey
              have hy2 : ¬ (1000000000000000000 : Int) ≤ x := by omega
              refine ⟨q, ⟨ns, i + 1, r, x, 7⟩, by simp [runI, runF, I_law_draw, evSs, evS, ev, ea, ag, slOf, binD, biD, cmpD, Cst.d, Pl.at_, Pl.put, hr, hl, h0, h1, hi, ha, hn, hy2, e], q0, q1, by show 0 ≤ i + 1; omega, y0, by show x < 10 ^ 18; omega, by show (7 : Int) ≤ 7; omega⟩
        by_cases hn : x < 0
        · exact key (-1 - x) (by omega) (if_pos hn)
        · exact key x (by omega) (if_neg hn)
end Cm

set_option Elab.async false
set_option linter.all false
set_option maxRecDepth 100000
set_option maxHeartbeats 4000000
namespace Cm
open PySem Ip L2
/-! ### texts -/
theorem char_inj : ∀ {a b : List Char}, a.map Char.toNat = b.map Char.toNat → a = b
  | [], [], _ => rfl
  | x :: a, y :: b, h => by
    simp only [List.map_cons, List.cons.injEq] at h
    have e : x = y := Char.ext (by
      have h1 : x.val.toNat = y.val.toNat := h.1
      exact UInt32.toNat_inj.mp h1)
    rw [e, char_inj h.2]
  | [], _ :: _, h => by simp at h
  | _ :: _, [], h => by simp at h
@[simp] theorem ofString_inj (a b : String) : (Str.ofString a = Str.ofString b) ↔ a = b := by
  constructor
  · intro h
    rw [Str.ofString_eq_toList, Str.ofString_eq_toList] at h
    have h2 : a.toList.map Char.toNat = b.toList.map Char.toNat := by simpa using congrArg (fun s => s.cps.toList) h
    have h3 := char_inj h2
    rw [← String.ofList_toList (s := a), ← String.ofList_toList (s := b), h3]
  · rintro rfl
    rfl
theorem ofString_len (a : String) : (Str.ofString a).length = a.toList.length := by
  rw [Str.ofString_eq_toList]
  show (List.map Char.toNat a.toList).toArray.size = _
  simp
theorem str_len_add (a b : Str) : (a ++ b).length = a.length + b.length := by
  show (a.cps ++ b.cps).size = _
  rw [Array.size_append]
  rfl
example : (Str.ofString "abc").length = 3 := by rw [ofString_len]; decide
/-! ### loops -/
theorem forG_or {f : D → List Sl → Pl → Option Out} (I : Nat → List Sl → Pl → Prop) (R : D → Pl → Prop) : ∀ (ds : List D) (n : Nat) (env : List Sl) (st : Pl), I n env st →
    (∀ i d env st, ds[i]? = some d → I (n + i) env st → (∃ env' st', (f d env st = some (.nx env' st') ∨ f d env st = some (.ct env' st')) ∧ I (n + i + 1) env' st') ∨ (∃ v st', f d env st = some (.rt v st') ∧ R v st')) →
    (∃ env' st', forG f ds env st = some (.nx env' st') ∧ I (n + ds.length) env' st') ∨ (∃ v st', forG f ds env st = some (.rt v st') ∧ R v st')
  | [], n, env, st, h, _ => .inl ⟨env, st, rfl, h⟩
  | d :: ds, n, env, st, h, hs => by
    rcases hs 0 d env st rfl h with ⟨env1, st1, e, h1⟩ | ⟨v, st1, e, h1⟩
    · have ih := forG_or I R ds (n + 1) env1 st1 h1 fun i d' env' st' hi h' => by
        have h2 := hs (i + 1) d' env' st' (by simpa using hi) (by
          have e2 : n + (i + 1) = n + 1 + i := by omega
          rw [e2]
          exact h')
        have e2 : n + (i + 1) + 1 = n + 1 + i + 1 := by omega
        rw [e2] at h2
        exact h2
      have e2 : n + (d :: ds).length = n + 1 + ds.length := by simp; omega
      rw [e2]
      rcases e with e | e
      · unfold forG
        rw [e]
        exact ih
      · unfold forG
        rw [e]
        exact ih
    · refine .inr ⟨v, st1, ?_, h1⟩
      unfold forG
      rw [e]
theorem forG_nx {f : D → List Sl → Pl → Option Out} (I : Nat → List Sl → Pl → Prop) (ds : List D) (env : List Sl) (st : Pl) (h : I 0 env st)
    (hs : ∀ i d env st, ds[i]? = some d → I i env st → ∃ env' st', f d env st = some (.nx env' st') ∧ I (i + 1) env' st') : ∃ env' st', forG f ds env st = some (.nx env' st') ∧ I ds.length env' st' := by
  have h1 := forG_or (f := f) I (fun _ _ => False) ds 0 env st h fun i d env st hi h' => by
    rw [Nat.zero_add] at h' ⊢
    obtain ⟨env', st', e, h2⟩ := hs i d env st hi h'
    exact .inl ⟨env', st', .inl e, h2⟩
  rcases h1 with ⟨env', st', e, h2⟩ | ⟨_, _, _, h2⟩
  · rw [Nat.zero_add] at h2
    exact ⟨env', st', e, h2⟩
  · exact h2.elim
theorem lcG_pure {f : D → Pl → Option (Option D × Pl)} {g : D → Option D} {st : Pl} : ∀ {ds : List D}, (∀ d ∈ ds, f d st = some (g d, st)) → lcG f ds st = some (ds.filterMap g, st)
  | [], _ => rfl
  | d :: ds, h => by
    unfold lcG
    rw [h d List.mem_cons_self]
    have ih := lcG_pure (f := f) (g := g) (st := st) fun x hx => h x (List.mem_cons_of_mem _ hx)
    rw [List.filterMap_cons]
    cases g d with
    | none => exact ih
    | some y =>
      simp only [ih]
theorem lcG_all {f : D → Pl → Option (Option D × Pl)} (J : Pl → Prop) (P : D → Prop) : ∀ (ds : List D) (st : Pl), J st → (∀ d ∈ ds, ∀ st, J st → ∃ y st', f d st = some (some y, st') ∧ J st' ∧ P y) →
    ∃ ys st', lcG f ds st = some (ys, st') ∧ J st' ∧ (∀ y ∈ ys, P y) ∧ ys.length = ds.length
  | [], st, h, _ => ⟨[], st, rfl, h, (fun y hy => by cases hy), rfl⟩
  | d :: ds, st, h, hs => by
    obtain ⟨y, st1, e, h1, hp⟩ := hs d List.mem_cons_self st h
    obtain ⟨ys, st2, e2, h2, hp2, hl⟩ := lcG_all J P ds st1 h1 fun x hx => hs x (List.mem_cons_of_mem _ hx)
    refine ⟨y :: ys, st2, ?_, h2, fun z hz => ?_, congrArg Nat.succ hl⟩
    · unfold lcG
      rw [e]
      simp only [e2]
    · rcases List.mem_cons.mp hz with rfl | hz
      · exact hp
      · exact hp2 z hz
theorem rngD_nat {n : Int} (h0 : 0 ≤ n) (h1 : n ≤ 100000) : rngD 0 n = some ((List.range n.toNat).map fun (k : Nat) => PyData.int (k : Int)) := by
  unfold rngD
  rw [if_pos (by omega), Int.sub_zero]
  simp
/-! ### kinds, words, names -/
def kindsD : List D := [.str "any", .str "num", .str "nat", .str "small", .str "digit", .str "bit", .str "word"]
def KindsOk (cl : Cl) : Prop := ∀ st, cl "_law_kinds" [] st = some (.list kindsD, st)
theorem kinds_run (cl : Cl) (st : Pl) : runI 0 cl I_law_kinds [] st = some (.list kindsD, st) := by
  simp [runI, runF, I_law_kinds, evSs, evS, ev, ea, most, Cst.d, kindsD]
/-- a text whose first sign is one of a's, the others of b's -/
def WordOf (a b : Str) (n : Nat) (w : Str) : Prop := ∃ c l, w = ⟨(c :: l).toArray⟩ ∧ c ∈ a.cps.toList ∧ (∀ x ∈ l, x ∈ b.cps.toList) ∧ l.length = n
def WordOk (cl : Cl) : Prop := ∀ (a b : Str) (m : Int) (st : Pl), Pok st → 1 ≤ a.length → a.length ≤ 1000 → 1 ≤ b.length → b.length ≤ 1000 → 0 ≤ m → m ≤ 100 → ∃ w st', cl "_law_word" [none, some (.str a), some (.str b), some (.int m)] st = some (.str w, st') ∧ WordOf a b m.toNat w ∧ Pok st'
theorem atI_of {α : Type} {xs : List α} {r : Int} (h0 : 0 ≤ r) (h1 : r < xs.length) : atI xs r = some (xs[r.toNat]'(by omega)) := by
  unfold atI ixN
  rw [if_pos h0, if_pos h1]
  exact List.getElem?_eq_getElem _
theorem WordOf.len {a b : Str} {n : Nat} {w : Str} (h : WordOf a b n w) : w.length = n + 1 := by
  obtain ⟨c, l, rfl, _, _, rfl⟩ := h
  rfl
theorem word_run {cl : Cl} (hd : DrawOk cl) (a b : Str) (m : Int) (st : Pl) (h : Pok st) (a1 : 1 ≤ a.length) (a2 : a.length ≤ 1000) (b1 : 1 ≤ b.length) (b2 : b.length ≤ 1000) (m0 : 0 ≤ m) (m1 : m ≤ 100) :
    ∃ w st', runI 4 cl I_law_word [none, some (.str a), some (.str b), some (.int m)] st = some (.str w, st') ∧ WordOf a b m.toNat w ∧ Pok st' := by
  have ha : a.length ≤ most := Nat.le_trans a2 (by decide)
  have hb : b.length ≤ most := Nat.le_trans b2 (by decide)
  have la : a.cps.toList.length = a.length := Array.length_toList
  have lb : b.cps.toList.length = b.length := Array.length_toList
  obtain ⟨r, st1, e1, r0, r1, h1⟩ := hd a.length st h (by omega) (by omega)
  have hat := atI_of (xs := a.cps.toList) r0 (by rw [la]; exact r1)
  generalize hc : a.cps.toList[r.toNat]'_ = c at hat
  have hca : c ∈ a.cps.toList := by rw [← hc]; exact List.getElem_mem _
  have hrg := rngD_nat m0 (by omega)
  obtain ⟨env', st2, e2, w, x, rfl, e4, e5⟩ := forG_nx (f := fb cl (.one 5) (.cons (.set 4 (.bin .add (.var 4) (.ix (.var 2) (.call "_law_draw" (.pool 0 (.cons (.bi .len (.cons (.var 2) .nil)) .nil)))))) .nil)) (fun i env st => ∃ w x, env = [.pl, .im (.str a), .im (.str b), .im (.int m), .im (.str w), x] ∧ WordOf a b i w ∧ Pok st)
    ((List.range m.toNat).map fun (k : Nat) => PyData.int (k : Int)) [.pl, .im (.str a), .im (.str b), .im (.int m), .im (.str ⟨#[c]⟩), .no] st1 ⟨⟨#[c]⟩, .no, rfl, ⟨c, [], rfl, hca, fun x hx => by (cases hx), rfl⟩, h1⟩
    (fun i d env st hi ⟨w, x, e, hw, hp⟩ => by
      subst e
      have hi2 : i < m.toNat := by
        have := (List.getElem?_eq_some_iff.mp hi).1
        simpa using this
      obtain ⟨r, st1, e1, r0, r1, h1⟩ := hd b.length st hp (by omega) (by omega)
      have hat := atI_of (xs := b.cps.toList) r0 (by rw [lb]; exact r1)
      generalize hc : b.cps.toList[r.toNat]'_ = c at hat
      have hcb : c ∈ b.cps.toList := by rw [← hc]; exact List.getElem_mem _
      have hwl := hw.len
      have hl1 : (⟨#[c]⟩ : Str).length = 1 := rfl
      have hsum : w.length + (⟨#[c]⟩ : Str).length ≤ most := by
        rw [hl1, hwl]
        show i + 1 + 1 ≤ 100000
        omega
      refine ⟨[.pl, .im (.str a), .im (.str b), .im (.int m), .im (.str (w ++ ⟨#[c]⟩)), .im d], st1, ?_, w ++ ⟨#[c]⟩, .im d, rfl, ?_, h1⟩
      · simp [fb_eq, sgD, binD, biD, ixD, hb, e1, hat, hsum]
      · obtain ⟨c0, l, rfl, h2, h3, h4⟩ := hw
        refine ⟨c0, l ++ [c], ?_, h2, fun y hy => ?_, by simp [h4]⟩
        · show (⟨(c0 :: l).toArray ++ #[c]⟩ : Str) = _
          simp
        · rcases List.mem_append.mp hy with hy | hy
          · exact h3 y hy
          · rw [List.mem_singleton.mp hy]
            exact hcb)
  refine ⟨w, st2, ?_, by simpa using e4, e5⟩
  simp [runI, runF, I_law_word, slOf, binD, biD, ixD, ha, e1, hat, hrg, e2]
end Cm

set_option Elab.async false
set_option linter.all false
set_option maxRecDepth 100000
set_option maxHeartbeats 4000000
namespace Cm
open PySem Ip L2
theorem forG_or0 {f : D → List Sl → Pl → Option Out} (I : Nat → List Sl → Pl → Prop) (R : D → Pl → Prop) (ds : List D) (env : List Sl) (st : Pl) (h : I 0 env st)
    (hs : ∀ i d env st, ds[i]? = some d → I i env st → (∃ env' st', (f d env st = some (.nx env' st') ∨ f d env st = some (.ct env' st')) ∧ I (i + 1) env' st') ∨ (∃ v st', f d env st = some (.rt v st') ∧ R v st')) :
    (∃ env' st', forG f ds env st = some (.nx env' st') ∧ I ds.length env' st') ∨ (∃ v st', forG f ds env st = some (.rt v st') ∧ R v st') := by
  have h1 := forG_or (f := f) I R ds 0 env st h fun i d env st hi h' => by
    rw [Nat.zero_add] at h' ⊢
    exact hs i d env st hi h'
  rw [Nat.zero_add] at h1
  exact h1
def flats (xs : List D) : Prop := xs.all flatD = true
theorem rng_at {n i : Nat} {d : D} (h : ((List.range n).map fun (k : Nat) => PyData.int (k : Int))[i]? = some d) : i < n ∧ d = .int i := by
  obtain ⟨h1, h2⟩ := List.getElem?_eq_some_iff.mp h
  simp at h1
  simp at h2
  exact ⟨h1, h2.symm⟩
theorem repr_len : ∀ k ∈ List.range 60, (toString (k : Int)).toList.length ≤ 2 := by decide
theorem str_small {i : Nat} (h : i < 60) : ∃ s, biD .str [.int (i : Int)] = some (.str s) ∧ s.length ≤ 2 := by
  refine ⟨Str.ofString (toString (i : Int)), ?_, ?_⟩
  · have h0 : (i : Int).natAbs.log2 < 1920 := by
      have h0 : (i : Int).natAbs = i := by omega
      rw [h0]
      exact Nat.lt_of_le_of_lt (Nat.log2_le_self i) (by omega)
    show (if _ then _ else _) = _
    rw [if_pos h0]
  · rw [ofString_len]
    exact repr_len i (List.mem_range.mpr h)
theorem cut_len (w : Str) : (cutS w none (some 4)).length ≤ 4 := by
  show (List.toArray _).size ≤ 4
  simp [HT.sIx]
  omega
def FreshOk (cl : Cl) : Prop := ∀ (xs : List D) (st : Pl), Pok st → flats xs → ∃ w st', cl "_law_fresh" [none, some (.list xs)] st = some (.str w, st') ∧ w.length ≤ 6 ∧ Pok st'
theorem kinds_flat : kindsD.all flatD = true := by rfl
theorem l26 : (Str.ofString "abcdefghijklmnopqrstuvwxyz").length = 26 := by rw [ofString_len]; decide
theorem l10 : (Str.ofString "0123456789").length = 10 := by rw [ofString_len]; decide
theorem fresh_run {cl : Cl} (hd : DrawOk cl) (hw : WordOk cl) (hk : KindsOk cl) (xs : List D) (st : Pl) (h : Pok st) (hx : flats xs) :
    ∃ w st', runI 2 cl I_law_fresh [none, some (.list xs)] st = some (.str w, st') ∧ w.length ≤ 6 ∧ Pok st' := by
  have hm36 : (26 : Nat) + 10 ≤ most := by decide
  have hrg : rngD 0 60 = some ((List.range 60).map fun (k : Nat) => PyData.int (k : Int)) := rngD_nat (n := 60) (by decide) (by decide)
  have h2m : (2 : Nat) ≤ most := by decide
  have tail : ∀ (m : Int) (st2 : Pl), Pok st2 → 0 ≤ m → m ≤ 5 → ∃ w st3, cl "_law_word" [none, some (.str "abcdefghijklmnopqrstuvwxyz"), some (.str (Str.ofString "abcdefghijklmnopqrstuvwxyz" ++ Str.ofString "0123456789")), some (.int m)] st2 = some (.str w, st3) ∧
      ((∃ w2 x, forG (fb cl (.one 5) (.cons (.iff (.and (.cmp .notin (.var 4) (.var 1)) (.and (.cmp .notin (.var 4) (.call "_law_kinds" .nil)) (.cmp .notin (.var 4) (.lst (.cons (.cst (.str "lent")) (.cons (.cst (.str "main")) .nil)))))) (.cons (.ret (.var 4)) .nil) .nil)
        (.cons (.set 4 (.bin .add (.sl (.var 4) .non (.some (.cst (.int 4)))) (.bi .str (.cons (.var 5) .nil)))) .nil)))
        ((List.range 60).map fun (k : Nat) => PyData.int (k : Int)) [.pl, .im (.list xs), .im (.str "abcdefghijklmnopqrstuvwxyz"), .im (.int m), .im (.str w), .no] st3 = some (.nx [.pl, .im (.list xs), .im (.str "abcdefghijklmnopqrstuvwxyz"), .im (.int m), .im (.str w2), x] st3) ∧ w2.length ≤ 6) ∨
      (∃ w2, forG (fb cl (.one 5) (.cons (.iff (.and (.cmp .notin (.var 4) (.var 1)) (.and (.cmp .notin (.var 4) (.call "_law_kinds" .nil)) (.cmp .notin (.var 4) (.lst (.cons (.cst (.str "lent")) (.cons (.cst (.str "main")) .nil)))))) (.cons (.ret (.var 4)) .nil) .nil)
        (.cons (.set 4 (.bin .add (.sl (.var 4) .non (.some (.cst (.int 4)))) (.bi .str (.cons (.var 5) .nil)))) .nil)))
        ((List.range 60).map fun (k : Nat) => PyData.int (k : Int)) [.pl, .im (.list xs), .im (.str "abcdefghijklmnopqrstuvwxyz"), .im (.int m), .im (.str w), .no] st3 = some (.rt (.str w2) st3) ∧ w2.length ≤ 6)) ∧ Pok st3 := fun m st2 h2 m0 m1 => by
    obtain ⟨w, st3, e3, w1, h3⟩ := hw "abcdefghijklmnopqrstuvwxyz" (Str.ofString "abcdefghijklmnopqrstuvwxyz" ++ Str.ofString "0123456789") m st2 h2 (by rw [l26]; decide) (by rw [l26]; decide) (by rw [str_len_add, l26]; omega) (by rw [str_len_add, l26, l10]; decide) m0 (by omega)
    refine ⟨w, st3, e3, ?_, h3⟩
    rcases forG_or0 (f := fb cl (.one 5) (.cons (.iff (.and (.cmp .notin (.var 4) (.var 1)) (.and (.cmp .notin (.var 4) (.call "_law_kinds" .nil)) (.cmp .notin (.var 4) (.lst (.cons (.cst (.str "lent")) (.cons (.cst (.str "main")) .nil)))))) (.cons (.ret (.var 4)) .nil) .nil)
        (.cons (.set 4 (.bin .add (.sl (.var 4) .non (.some (.cst (.int 4)))) (.bi .str (.cons (.var 5) .nil)))) .nil)))
      (fun _ env st => ∃ w x, env = [.pl, .im (.list xs), .im (.str "abcdefghijklmnopqrstuvwxyz"), .im (.int m), .im (.str w), x] ∧ w.length ≤ 6 ∧ st = st3)
      (fun v st => ∃ w, v = .str w ∧ w.length ≤ 6 ∧ st = st3)
      ((List.range 60).map fun (k : Nat) => PyData.int (k : Int))
      [.pl, .im (.list xs), .im (.str "abcdefghijklmnopqrstuvwxyz"), .im (.int m), .im (.str w), .no] st3 ⟨w, .no, rfl, by rw [w1.len]; omega, rfl⟩
      (fun i d env st hi ⟨w, x, e, hw, hst⟩ => by
        subst e
        subst hst
        obtain ⟨hi2, rfl⟩ := rng_at hi
        have hwm : w.length ≤ most := Nat.le_trans hw (by decide)
        obtain ⟨s, hs, hsl⟩ := str_small hi2
        have hc4 := cut_len w
        have hll : (cutS w none (some 4)).length + s.length ≤ most := by
          show _ ≤ 100000
          omega
        have hll2 : (cutS w none (some 4) ++ s).length ≤ 6 := by
          rw [str_len_add]
          omega
        have e4 : (∀ b, b = (memD (.str w) xs = true ∨ memD (.str w) kindsD = true ∨ w = Str.ofString "lent" ∨ w = Str.ofString "main") → True) := fun _ _ => trivial
        by_cases h1 : memD (.str w) xs = true
        · refine .inl ⟨[.pl, .im (.list xs), .im (.str "abcdefghijklmnopqrstuvwxyz"), .im (.int m), .im (.str (cutS w none (some 4) ++ s)), .im (.int i)], st, .inl ?_, _, _, rfl, hll2, rfl⟩
          simp [fb_eq, sgD, binD, slD, cmpD, inD, flatD, Cst.d, hwm, hs, hll, h1, show xs.all flatD = true from hx]
        · by_cases h2 : memD (.str w) kindsD = true
          · refine .inl ⟨[.pl, .im (.list xs), .im (.str "abcdefghijklmnopqrstuvwxyz"), .im (.int m), .im (.str (cutS w none (some 4) ++ s)), .im (.int i)], st, .inl ?_, _, _, rfl, hll2, rfl⟩
            simp [fb_eq, sgD, binD, slD, cmpD, inD, flatD, Cst.d, hwm, hs, hll, h1, h2, hk st, kinds_flat, show xs.all flatD = true from hx]
          · by_cases h3 : (Str.ofString "lent" = w ∨ Str.ofString "main" = w)
            · refine .inl ⟨[.pl, .im (.list xs), .im (.str "abcdefghijklmnopqrstuvwxyz"), .im (.int m), .im (.str (cutS w none (some 4) ++ s)), .im (.int i)], st, .inl ?_, _, _, rfl, hll2, rfl⟩
              simp [fb_eq, sgD, binD, slD, cmpD, inD, flatD, Cst.d, hwm, hs, hll, h1, h2, hk st, kinds_flat, h2m, show xs.all flatD = true from hx, show memD (.str w) [.str (Str.ofString "lent"), .str (Str.ofString "main")] = true by simp [memD, h3]]
            · refine .inr ⟨.str w, st, ?_, w, rfl, hw, rfl⟩
              simp [fb_eq, sgD, binD, slD, cmpD, inD, flatD, Cst.d, hwm, hs, hll, h1, h2, hk st, kinds_flat, h2m, show xs.all flatD = true from hx, show memD (.str w) [.str (Str.ofString "lent"), .str (Str.ofString "main")] = false by simp [memD]; exact ⟨fun e => h3 (.inl e), fun e => h3 (.inr e)⟩]) with ⟨env', st4, e4, w2, x, rfl, h4, rfl⟩ | ⟨v, st4, e4, w2, rfl, h4, rfl⟩
    · exact .inl ⟨w2, x, e4, h4⟩
    · exact .inr ⟨w2, e4, h4⟩
  obtain ⟨r, st1, e1, r0, r1, h1⟩ := hd 3 st h (by decide) (by decide)
  by_cases h2 : r = 2
  · subst h2
    obtain ⟨r', st2, e2, r0', r1', h2'⟩ := hd 6 st1 h1 (by decide) (by decide)
    obtain ⟨w, st3, e3, ⟨w2, x, e4, h4⟩ | ⟨w2, e4, h4⟩, h3⟩ := tail r' st2 h2' r0' (by omega)
    · refine ⟨w2, st3, ?_, h4, h3⟩
      simp [runI, runF, I_law_fresh, slOf, binD, cmpD, eqD, Cst.d, l26, l10, hm36, e1, e2, e3, hrg, e4]
    · refine ⟨w2, st3, ?_, h4, h3⟩
      simp [runI, runF, I_law_fresh, slOf, binD, cmpD, eqD, Cst.d, l26, l10, hm36, e1, e2, e3, hrg, e4]
  · obtain ⟨w, st3, e3, ⟨w2, x, e4, h4⟩ | ⟨w2, e4, h4⟩, h3⟩ := tail r st1 h1 r0 (by omega)
    · refine ⟨w2, st3, ?_, h4, h3⟩
      simp [runI, runF, I_law_fresh, slOf, binD, cmpD, eqD, Cst.d, l26, l10, hm36, e1, e3, hrg, e4, h2]
    · refine ⟨w2, st3, ?_, h4, h3⟩
      simp [runI, runF, I_law_fresh, slOf, binD, cmpD, eqD, Cst.d, l26, l10, hm36, e1, e3, hrg, e4, h2]
end Cm

set_option Elab.async false
set_option linter.all false
set_option maxRecDepth 100000
set_option maxHeartbeats 4000000
namespace Cm
open PySem Ip L2
/-! ### literals, kinds -/
def LitD (d : D) : Prop := (∃ i : Int, d = .int i ∧ -99 ≤ i ∧ i ≤ 99) ∨ ∃ w : Str, d = .str w ∧ 1 ≤ w.length ∧ w.length ≤ 6
def LiteralOk (cl : Cl) : Prop := ∀ (st : Pl), Pok st → ∃ d st', cl "_law_literal" [none] st = some (d, st') ∧ LitD d ∧ Pok st'
def KindOk (cl : Cl) : Prop := ∀ (st : Pl), Pok st → ∃ d st', cl "_law_kind" [none] st = some (d, st') ∧ (d = .none ∨ d ∈ kindsD) ∧ Pok st'
theorem literal_run {cl : Cl} (hd : DrawOk cl) (hw : WordOk cl) (st : Pl) (h : Pok st) : ∃ d st', runI 1 cl I_law_literal [none] st = some (d, st') ∧ LitD d ∧ Pok st' := by
  have h6m : (6 : Nat) ≤ most := by decide
  obtain ⟨r, st1, e1, r0, r1, h1⟩ := hd 5 st h (by decide) (by decide)
  by_cases q0 : r = 0
  · subst q0
    obtain ⟨s, st2, e2, s0, s1, h2⟩ := hd 2 st1 h1 (by decide) (by decide)
    refine ⟨.int s, st2, ?_, .inl ⟨s, rfl, by omega, by omega⟩, h2⟩
    simp [runI, runF, I_law_literal, slOf, cmpD, eqD, Cst.d, e1, e2]
  by_cases q1 : r = 1
  · subst q1
    obtain ⟨s, st2, e2, s0, s1, h2⟩ := hd 199 st1 h1 (by decide) (by decide)
    refine ⟨.int (s - 99), st2, ?_, .inl ⟨s - 99, rfl, by omega, by omega⟩, h2⟩
    simp [runI, runF, I_law_literal, slOf, cmpD, eqD, binD, Cst.d, e1, e2]
  by_cases q2 : r = 2
  · subst q2
    obtain ⟨s, st2, e2, s0, s1, h2⟩ := hd 6 st1 h1 (by decide) (by decide)
    have hat := atI_of (xs := [PyData.int (-10), .int (-9), .int (-1), .int 2, .int 9, .int 10]) s0 (by simpa using s1)
    generalize hx : ([PyData.int (-10), .int (-9), .int (-1), .int 2, .int 9, .int 10])[s.toNat]'_ = x at hat
    have hm : x ∈ [PyData.int (-10), .int (-9), .int (-1), .int 2, .int 9, .int 10] := by rw [← hx]; exact List.getElem_mem _
    refine ⟨x, st2, ?_, ?_, h2⟩
    · simp [runI, runF, I_law_literal, slOf, cmpD, eqD, binD, ixD, Cst.d, e1, e2, h6m, hat]
    · simp only [List.mem_cons, List.not_mem_nil, or_false] at hm
      rcases hm with rfl | rfl | rfl | rfl | rfl | rfl <;> exact .inl ⟨_, rfl, by decide, by decide⟩
  by_cases q3 : r = 3
  · subst q3
    obtain ⟨s, st2, e2, s0, s1, h2⟩ := hd 10 st1 h1 (by decide) (by decide)
    refine ⟨.int s, st2, ?_, .inl ⟨s, rfl, by omega, by omega⟩, h2⟩
    simp [runI, runF, I_law_literal, slOf, cmpD, eqD, Cst.d, e1, e2]
  · obtain ⟨s, st2, e2, s0, s1, h2⟩ := hd 6 st1 h1 (by decide) (by decide)
    obtain ⟨w, st3, e3, hw, h3⟩ := hw "abcdefghijklmnopqrstuvwxyz" "abcdefghijklmnopqrstuvwxyz" s st2 h2 (by rw [l26]; decide) (by rw [l26]; decide) (by rw [l26]; decide) (by rw [l26]; decide) s0 (by omega)
    refine ⟨.str w, st3, ?_, .inr ⟨w, rfl, by rw [hw.len]; omega, by rw [hw.len]; omega⟩, h3⟩
    simp [runI, runF, I_law_literal, slOf, cmpD, eqD, Cst.d, e1, e2, e3, q0, q1, q2, q3]
theorem kind_run {cl : Cl} (hd : DrawOk cl) (hk : KindsOk cl) (st : Pl) (h : Pok st) : ∃ d st', runI 1 cl I_law_kind [none] st = some (d, st') ∧ (d = .none ∨ d ∈ kindsD) ∧ Pok st' := by
  obtain ⟨r, st1, e1, r0, r1, h1⟩ := hd 2 st h (by decide) (by decide)
  by_cases q0 : r = 0
  · subst q0
    refine ⟨.none, st1, ?_, .inl rfl, h1⟩
    simp [runI, runF, I_law_kind, slOf, cmpD, eqD, Cst.d, e1]
  · obtain ⟨s, st2, e2, s0, s1, h2⟩ := hd 7 st1 h1 (by decide) (by decide)
    have hat := atI_of (xs := kindsD) s0 (by simpa [kindsD] using s1)
    generalize hx : kindsD[s.toNat]'_ = x at hat
    refine ⟨x, st2, ?_, .inr (by rw [← hx]; exact List.getElem_mem _), h2⟩
    simp [runI, runF, I_law_kind, slOf, cmpD, eqD, ixD, Cst.d, e1, e2, q0, hk st1, hat]
/-! ### sameness of a thing with itself -/
def scal : D → Prop
  | .none => True
  | .bool _ => True
  | .int _ => True
  | .str _ => True
  | _ => False
def dep : Nat → D → Prop
  | 0, d => scal d
  | n + 1, d => scal d ∨ ∃ xs, (d = .list xs ∨ d = .tuple xs) ∧ xs.length ≤ most ∧ ∀ x ∈ xs, dep n x
theorem dep_succ (n : Nat) (d : D) : dep (n + 1) d = (scal d ∨ ∃ xs, (d = .list xs ∨ d = .tuple xs) ∧ xs.length ≤ most ∧ ∀ x ∈ xs, dep n x) := rfl
theorem most_lt {n : Nat} (h : n ≤ most) : (n : Int) ≤ 100000 := by
  unfold most at h
  omega
def IsIntOk (cl : Cl) : Prop := ∀ (d : D) (st : Pl), cl "_law_is_int" [some d] st = some (.bool (isiD .int d && !isiD .bool d), st)
def SameOk (cl : Cl) (n : Nat) : Prop := ∀ (d : D) (st : Pl), dep n d → cl "_law_same" [some d, some d] st = some (.bool true, st)
theorem is_int_run (cl : Cl) (d : D) (st : Pl) : runI 1 cl I_law_is_int [some d] st = some (.bool (isiD .int d && !isiD .bool d), st) := by
  cases h : isiD .int d <;> simp [runI, runF, I_law_is_int, slOf, h]
theorem same_scal {cl : Cl} (hi : IsIntOk cl) (d : D) (st : Pl) (h : scal d) : runI 2 cl I_law_same [some d, some d] st = some (.bool true, st) := by
  have hi2 : ∀ i, cl "_law_is_int" [some (.int i)] st = some (.bool true, st) := fun i => hi _ _
  cases d with
  | none => simp [runI, runF, I_law_same, slOf, cmpD, Cst.d]
  | bool b => simp [runI, runF, I_law_same, slOf, cmpD, eqD, Cst.d, isiD]
  | int i => simp [runI, runF, I_law_same, slOf, cmpD, eqD, Cst.d, isiD, hi2]
  | str s => simp [runI, runF, I_law_same, slOf, cmpD, eqD, Cst.d, isiD]
  | _ => exact h.elim
theorem same_run {cl : Cl} {n : Nat} (hi : IsIntOk cl) (hs : SameOk cl n) (d : D) (st : Pl) (h : dep (n + 1) d) : runI 2 cl I_law_same [some d, some d] st = some (.bool true, st) := by
  rw [dep_succ] at h
  rcases h with h | ⟨xs, h, hl, hx⟩
  · exact same_scal hi d st h
  · have hrg : rngD 0 (xs.length : Int) = some ((List.range xs.length).map fun (k : Nat) => PyData.int (k : Int)) := rngD_nat (n := (xs.length : Int)) (Int.natCast_nonneg _) (most_lt hl)
    have at_ : ∀ i, i < xs.length → ∃ x, atI xs (i : Int) = some x ∧ dep n x := fun i hi => by
      refine ⟨_, atI_of (xs := xs) (r := (i : Int)) (by omega) (by omega), hx _ (List.getElem_mem _)⟩
    have key : ∀ d, d = .list xs ∨ d = .tuple xs → ∃ env', forG (fb cl (.one 2) (.cons (.iff (.not (.call "_law_same" (.cons (.ix (.var 0) (.var 2)) (.cons (.ix (.var 1) (.var 2)) .nil)))) (.cons (.ret (.cst (.bl false))) .nil) .nil) .nil))
        ((List.range xs.length).map fun (k : Nat) => PyData.int (k : Int)) [.im d, .im d, .no] st = some (.nx env' st) := fun d h => by
      obtain ⟨env', st', e, x, e2, e3⟩ := forG_nx (f := fb cl (.one 2) (.cons (.iff (.not (.call "_law_same" (.cons (.ix (.var 0) (.var 2)) (.cons (.ix (.var 1) (.var 2)) .nil)))) (.cons (.ret (.cst (.bl false))) .nil) .nil) .nil))
        (fun _ env s => ∃ x, env = [.im d, .im d, x] ∧ s = st) ((List.range xs.length).map fun (k : Nat) => PyData.int (k : Int)) [.im d, .im d, .no] st ⟨_, rfl, rfl⟩
        (fun i y env s hy ⟨x, e, e2⟩ => by
          subst e
          subst e2
          obtain ⟨hi2, rfl⟩ := rng_at hy
          obtain ⟨z, hz, hz2⟩ := at_ i hi2
          have hz3 := hs z s hz2
          refine ⟨[.im d, .im d, .im (.int i)], s, ?_, ⟨_, rfl, rfl⟩⟩
          rcases h with rfl | rfl <;> simp [fb_eq, sgD, ixD, hz, hz3])
      subst e3
      exact ⟨env', e⟩
    obtain ⟨env', e⟩ := key d h
    rcases h with rfl | rfl
    · simp [runI, runF, I_law_same, slOf, cmpD, eqD, biD, Cst.d, isiD, hrg, e]
    · simp [runI, runF, I_law_same, slOf, cmpD, eqD, biD, Cst.d, isiD, hrg, e]
end Cm

set_option Elab.async false
set_option linter.all false
set_option maxRecDepth 100000
set_option maxHeartbeats 4000000
namespace K4
open PySem Ip
/-! The defs in short. -/
def I_names_read : IF := ⟨4, (.cons (.iff (.cmp .eq (.ix (.var 0) (.cst (.int 0))) (.cst (.str "narrow"))) (.cons (.ret (.tup (.cons (.ix (.var 0) (.cst (.int 1))) .nil)))
  .nil) .nil)
  (.cons (.own 1 (.lst .nil))
  (.cons (.forr (.one 2) (.seq (.call "row_exprs" (.cons (.var 0) .nil))) (.cons (.ext 1 (.lc 3 (.seq (.call "leaves" (.cons (.var 2) .nil))) (.cons (.cmp .eq (.ix (.var 3) (.cst (.int 0))) (.cst (.str "name"))) .nil) (.ix (.var 3) (.cst (.int 1)))))
  .nil))
  (.cons (.frz [1] (.ret (.bi .tuple (.cons (.var 1) .nil))))
  .nil))))⟩
def I_names_set : IF := ⟨1, (.cons (.iff (.cmp .isin (.ix (.var 0) (.cst (.int 0))) (.tup (.cons (.cst (.str "set")) (.cons (.cst (.str "ask")) .nil)))) (.cons (.ret (.tup (.cons (.ix (.var 0) (.cst (.int 1))) .nil)))
  .nil) .nil)
  (.cons (.iff (.and (.cmp .isin (.ix (.var 0) (.cst (.int 0))) (.tup (.cons (.cst (.str "call")) (.cons (.cst (.str "wait")) .nil)))) (.cmp .noN (.ix (.var 0) (.cst (.int 1))) (.cst .non))) (.cons (.ret (.tup (.cons (.ix (.var 0) (.cst (.int 1))) .nil)))
  .nil) .nil)
  (.cons (.iff (.and (.cmp .eq (.ix (.var 0) (.cst (.int 0))) (.cst (.str "defer"))) (.cmp .eq (.ix (.ix (.var 0) (.cst (.int 2))) (.cst (.int 0))) (.cst (.str "set")))) (.cons (.ret (.tup (.cons (.ix (.ix (.var 0) (.cst (.int 2))) (.cst (.int 1))) .nil)))
  .nil) .nil)
  (.cons (.ret (.tup .nil))
  .nil))))⟩
def I_names_lent : IF := ⟨2, (.cons (.ret (.bi .tuple (.cons (.lc 1 (.seq (.call "row_args" (.cons (.var 0) .nil))) (.cons (.cmp .eq (.ix (.var 1) (.cst (.int 0))) (.cst (.str "lent"))) .nil) (.ix (.var 1) (.cst (.int 1)))) .nil)))
  .nil)⟩
def I_row_args : IF := ⟨1, (.cons (.iff (.cmp .isin (.ix (.var 0) (.cst (.int 0))) (.tup (.cons (.cst (.str "call")) (.cons (.cst (.str "start")) .nil)))) (.cons (.ret (.ix (.var 0) (.cst (.int 3))))
  .nil) .nil)
  (.cons (.ret (.tup .nil))
  .nil))⟩
def I_row_exprs : IF := ⟨2, (.cons (.iff (.cmp .eq (.ix (.var 0) (.cst (.int 0))) (.cst (.str "let"))) (.cons (.ret (.tup (.cons (.ix (.var 0) (.cst (.int 3))) .nil)))
  .nil) .nil)
  (.cons (.iff (.cmp .eq (.ix (.var 0) (.cst (.int 0))) (.cst (.str "set"))) (.cons (.ret (.tup (.cons (.ix (.var 0) (.cst (.int 2))) .nil)))
  .nil) .nil)
  (.cons (.iff (.cmp .isin (.ix (.var 0) (.cst (.int 0))) (.tup (.cons (.cst (.str "print")) (.cons (.cst (.str "if")) (.cons (.cst (.str "return")) .nil))))) (.cons (.ret (.tup (.cons (.ix (.var 0) (.cst (.int 1))) .nil)))
  .nil) .nil)
  (.cons (.iff (.cmp .eq (.ix (.var 0) (.cst (.int 0))) (.cst (.str "defer"))) (.cons (.ret (.tup (.cons (.ix (.ix (.var 0) (.cst (.int 2))) (.neg (.cst (.int 1)))) .nil)))
  .nil) .nil)
  (.cons (.ret (.bi .tuple (.cons (.lc 1 (.seq (.call "row_args" (.cons (.var 0) .nil))) (.cons (.cmp .eq (.ix (.var 1) (.cst (.int 0))) (.cst (.str "worth"))) .nil) (.ix (.var 1) (.cst (.int 1)))) .nil)))
  .nil)))))⟩
def I_leaves : IF := ⟨1, (.cons (.iff (.cmp .isin (.ix (.var 0) (.cst (.int 0))) (.tup (.cons (.cst (.str "lit")) (.cons (.cst (.str "name")) .nil)))) (.cons (.ret (.lst (.cons (.var 0) .nil)))
  .nil) .nil)
  (.cons (.ret (.bin .add (.call "leaves" (.cons (.ix (.var 0) (.cst (.int 1))) .nil)) (.call "leaves" (.cons (.ix (.var 0) (.cst (.int 2))) .nil))))
  .nil))⟩
abbrev I_law_mixed : IF := Cm.I_law_mixed
abbrev I_law_draw : IF := Cm.I_law_draw
abbrev I_law_kinds : IF := Cm.I_law_kinds
abbrev I_law_word : IF := Cm.I_law_word
abbrev I_law_fresh : IF := Cm.I_law_fresh
abbrev I_law_literal : IF := Cm.I_law_literal
abbrev I_law_kind : IF := Cm.I_law_kind
abbrev I_law_is_int : IF := Cm.I_law_is_int
abbrev I_law_same : IF := Cm.I_law_same
def I_law_grown : IF := ⟨8, (.cons (.set 3 (.call "_law_draw" (.pool 0 (.cons (.cst (.int 4)) .nil))))
  (.cons (.iff (.and (.cmp .gt (.var 2) (.cst (.int 1))) (.cmp .isin (.var 3) (.lst (.cons (.cst (.int 1)) (.cons (.cst (.int 2)) .nil))))) (.cons (.set 4 (.ix (.lst (.cons (.cst (.str "add")) (.cons (.cst (.str "sub")) (.cons (.cst (.str "less")) (.cons (.cst (.str "same")) .nil))))) (.call "_law_draw" (.pool 0 (.cons (.cst (.int 4)) .nil)))))
  (.cons (.set 5 (.call "_law_grown" (.pool 0 (.cons (.var 1) (.cons (.bin .sub (.var 2) (.cst (.int 1))) .nil)))))
  (.cons (.set 6 (.call "_law_grown" (.pool 0 (.cons (.var 1) (.cons (.bin .sub (.var 2) (.cst (.int 1))) .nil)))))
  (.cons (.ret (.lst (.cons (.tup (.cons (.var 4) (.cons (.ix (.var 5) (.cst (.int 0))) (.cons (.ix (.var 6) (.cst (.int 0))) .nil)))) (.cons (.bin .add (.ix (.var 5) (.cst (.int 1))) (.ix (.var 6) (.cst (.int 1)))) .nil))))
  .nil)))) .nil)
  (.cons (.iff (.cmp .eq (.var 3) (.cst (.int 3))) (.cons (.ret (.lst (.cons (.tup (.cons (.cst (.str "lit")) (.cons (.call "_law_literal" (.pool 0 .nil)) .nil))) (.cons (.lst .nil) .nil))))
  .nil) .nil)
  (.cons (.set 7 (.ix (.var 1) (.call "_law_draw" (.pool 0 (.cons (.bi .len (.cons (.var 1) .nil)) .nil)))))
  (.cons (.ret (.lst (.cons (.tup (.cons (.cst (.str "name")) (.cons (.var 7) .nil))) (.cons (.lst (.cons (.var 7) .nil)) .nil))))
  .nil)))))⟩
def I_law_args_grown : IF := ⟨9, (.cons (.set 3 (.tup .nil))
  (.cons (.set 4 (.lst .nil))
  (.cons (.own 5 (.lst .nil))
  (.cons (.forr (.one 6) (.seq (.var 2)) (.cons (.iff (.cmp .eq (.var 6) (.cst (.str "lent"))) (.cons (.set 7 (.ix (.var 1) (.call "_law_draw" (.pool 0 (.cons (.bi .len (.cons (.var 1) .nil)) .nil)))))
  (.cons (.set 3 (.bin .add (.var 3) (.tup (.cons (.tup (.cons (.cst (.str "lent")) (.cons (.var 7) .nil))) .nil))))
  (.cons (.app 5 (.var 7))
  .nil))) (.cons (.set 8 (.call "_law_grown" (.pool 0 (.cons (.var 1) (.cons (.cst (.int 3)) .nil)))))
  (.cons (.set 3 (.bin .add (.var 3) (.tup (.cons (.tup (.cons (.cst (.str "worth")) (.cons (.ix (.var 8) (.cst (.int 0))) .nil))) .nil))))
  (.cons (.set 4 (.bin .add (.var 4) (.ix (.var 8) (.cst (.int 1)))))
  .nil))))
  .nil))
  (.cons (.frz [5] (.ret (.lst (.cons (.var 3) (.cons (.var 4) (.cons (.var 5) .nil))))))
  .nil)))))⟩
def I_law_plain_rows : IF := ⟨11, (.cons (.set 5 (.ix (.call "_law_kinds" .nil) (.call "_law_draw" (.pool 0 (.cons (.cst (.int 7)) .nil)))))
  (.cons (.set 6 (.ix (.lst (.cons (.cst (.str "done")) (.cons (.cst (.str "fail")) (.cons (.cst (.str "always")) .nil)))) (.call "_law_draw" (.pool 0 (.cons (.cst (.int 3)) .nil)))))
  (.cons (.set 7 (.tup (.cons (.tup (.cons (.cst (.str "set")) (.cons (.var 3) (.cons (.tup (.cons (.cst (.str "name")) (.cons (.var 2) .nil))) .nil)))) (.cons (.tup (.cons (.cst (.str "call")) (.cons (.var 3) (.cons (.var 4) (.cons (.tup (.cons (.tup (.cons (.cst (.str "lent")) (.cons (.var 2) .nil))) (.cons (.tup (.cons (.cst (.str "worth")) (.cons (.tup (.cons (.cst (.str "name")) (.cons (.var 3) .nil))) .nil))) .nil))) .nil))))) .nil))))
  (.cons (.set 8 (.tup (.cons (.cst (.str "sub")) (.cons (.tup (.cons (.cst (.str "name")) (.cons (.ix (.var 1) (.cst (.int 0))) .nil))) (.cons (.tup (.cons (.cst (.str "add")) (.cons (.tup (.cons (.cst (.str "name")) (.cons (.ix (.var 1) (.cst (.int 1))) .nil))) (.cons (.tup (.cons (.cst (.str "name")) (.cons (.ix (.var 1) (.cst (.int 1))) .nil))) .nil)))) .nil)))))
  (.cons (.own 9 (.lst (.cons (.lst (.cons (.tup (.cons (.cst (.str "print")) (.cons (.var 8) .nil))) (.cons (.lst (.cons (.ix (.var 1) (.cst (.int 0))) (.cons (.ix (.var 1) (.cst (.int 1))) (.cons (.ix (.var 1) (.cst (.int 1))) .nil)))) (.cons (.lst .nil) (.cons (.lst .nil) .nil))))) .nil)))
  (.cons (.app 9 (.lst (.cons (.tup (.cons (.cst (.str "return")) (.cons (.tup (.cons (.cst (.str "same")) (.cons (.tup (.cons (.cst (.str "lit")) (.cons (.sl (.ix (.var 1) (.cst (.int 0))) .non (.some (.cst (.int 1)))) .nil))) (.cons (.tup (.cons (.cst (.str "name")) (.cons (.var 2) .nil))) .nil)))) .nil))) (.cons (.lst (.cons (.var 2) .nil)) (.cons (.lst .nil) (.cons (.lst .nil) .nil))))))
  (.cons (.app 9 (.lst (.cons (.tup (.cons (.cst (.str "ask")) (.cons (.var 3) .nil))) (.cons (.lst .nil) (.cons (.lst (.cons (.var 3) .nil)) (.cons (.lst .nil) .nil))))))
  (.cons (.app 9 (.lst (.cons (.tup (.cons (.cst (.str "wait")) (.cons (.var 2) (.cons (.var 4) .nil)))) (.cons (.lst .nil) (.cons (.lst (.cons (.var 2) .nil)) (.cons (.lst .nil) .nil))))))
  (.cons (.app 9 (.lst (.cons (.tup (.cons (.cst (.str "wait")) (.cons (.cst .non) (.cons (.var 4) .nil)))) (.cons (.lst .nil) (.cons (.lst .nil) (.cons (.lst .nil) .nil))))))
  (.cons (.app 9 (.lst (.cons (.tup (.cons (.cst (.str "narrow")) (.cons (.var 2) (.cons (.var 5) .nil)))) (.cons (.lst (.cons (.var 2) .nil)) (.cons (.lst .nil) (.cons (.lst .nil) .nil))))))
  (.cons (.app 9 (.lst (.cons (.tup (.cons (.cst (.str "loop")) (.cons (.bin .add (.cst (.int 1)) (.call "_law_draw" (.pool 0 (.cons (.cst (.int 3)) .nil)))) (.cons (.var 7) .nil)))) (.cons (.lst .nil) (.cons (.lst .nil) (.cons (.lst .nil) .nil))))))
  (.cons (.set 10 (.call "_law_grown" (.pool 0 (.cons (.var 1) (.cons (.cst (.int 3)) .nil)))))
  (.cons (.app 9 (.lst (.cons (.tup (.cons (.cst (.str "let")) (.cons (.var 4) (.cons (.call "_law_kind" (.pool 0 .nil)) (.cons (.ix (.var 10) (.cst (.int 0))) .nil))))) (.cons (.ix (.var 10) (.cst (.int 1))) (.cons (.lst .nil) (.cons (.lst .nil) .nil))))))
  (.cons (.set 10 (.call "_law_grown" (.pool 0 (.cons (.var 1) (.cons (.cst (.int 3)) .nil)))))
  (.cons (.app 9 (.lst (.cons (.tup (.cons (.cst (.str "set")) (.cons (.var 2) (.cons (.ix (.var 10) (.cst (.int 0))) .nil)))) (.cons (.ix (.var 10) (.cst (.int 1))) (.cons (.lst (.cons (.var 2) .nil)) (.cons (.lst .nil) .nil))))))
  (.cons (.set 10 (.call "_law_grown" (.pool 0 (.cons (.var 1) (.cons (.cst (.int 3)) .nil)))))
  (.cons (.app 9 (.lst (.cons (.tup (.cons (.cst (.str "print")) (.cons (.ix (.var 10) (.cst (.int 0))) .nil))) (.cons (.ix (.var 10) (.cst (.int 1))) (.cons (.lst .nil) (.cons (.lst .nil) .nil))))))
  (.cons (.set 10 (.call "_law_grown" (.pool 0 (.cons (.var 1) (.cons (.cst (.int 3)) .nil)))))
  (.cons (.app 9 (.lst (.cons (.tup (.cons (.cst (.str "return")) (.cons (.ix (.var 10) (.cst (.int 0))) .nil))) (.cons (.ix (.var 10) (.cst (.int 1))) (.cons (.lst .nil) (.cons (.lst .nil) .nil))))))
  (.cons (.set 10 (.call "_law_grown" (.pool 0 (.cons (.var 1) (.cons (.cst (.int 3)) .nil)))))
  (.cons (.app 9 (.lst (.cons (.tup (.cons (.cst (.str "if")) (.cons (.ix (.var 10) (.cst (.int 0))) (.cons (.var 7) (.cons (.sl (.var 7) (.some (.cst (.int 1))) .non) .nil))))) (.cons (.ix (.var 10) (.cst (.int 1))) (.cons (.lst .nil) (.cons (.lst .nil) .nil))))))
  (.cons (.set 10 (.call "_law_grown" (.pool 0 (.cons (.var 1) (.cons (.cst (.int 1)) .nil)))))
  (.cons (.app 9 (.lst (.cons (.tup (.cons (.cst (.str "defer")) (.cons (.var 6) (.cons (.tup (.cons (.cst (.str "print")) (.cons (.ix (.var 10) (.cst (.int 0))) .nil))) .nil)))) (.cons (.ix (.var 10) (.cst (.int 1))) (.cons (.lst .nil) (.cons (.lst .nil) .nil))))))
  (.cons (.app 9 (.lst (.cons (.tup (.cons (.cst (.str "defer")) (.cons (.var 6) (.cons (.tup (.cons (.cst (.str "set")) (.cons (.var 3) (.cons (.ix (.var 10) (.cst (.int 0))) .nil)))) .nil)))) (.cons (.ix (.var 10) (.cst (.int 1))) (.cons (.lst (.cons (.var 3) .nil)) (.cons (.lst .nil) .nil))))))
  (.cons (.frz [9] (.ret (.var 9)))
  .nil)))))))))))))))))))))))))⟩
def I_law_call_rows : IF := ⟨10, (.cons (.set 5 (.call "_law_fresh" (.pool 0 (.cons (.bin .add (.var 1) (.lst (.cons (.var 3) .nil))) .nil))))
  (.cons (.own 6 (.lst .nil))
  (.cons (.unp [7, 8, 9] (.call "_law_args_grown" (.pool 0 (.cons (.var 1) (.cons (.var 4) .nil)))))
  (.cons (.app 6 (.lst (.cons (.tup (.cons (.cst (.str "call")) (.cons (.var 2) (.cons (.var 3) (.cons (.var 7) .nil))))) (.cons (.var 8) (.cons (.lst (.cons (.var 2) .nil)) (.cons (.var 9) .nil))))))
  (.cons (.app 6 (.lst (.cons (.tup (.cons (.cst (.str "call")) (.cons (.cst .non) (.cons (.var 3) (.cons (.var 7) .nil))))) (.cons (.var 8) (.cons (.lst .nil) (.cons (.var 9) .nil))))))
  (.cons (.app 6 (.lst (.cons (.tup (.cons (.cst (.str "start")) (.cons (.var 5) (.cons (.var 3) (.cons (.var 7) .nil))))) (.cons (.var 8) (.cons (.lst .nil) (.cons (.var 9) .nil))))))
  (.cons (.frz [6] (.ret (.var 6)))
  .nil)))))))⟩
def I_law : IF := ⟨13, (.cons (.own 2 (.lst .nil))
  (.cons (.forr (.one 3) (.rng1 (.bin .add (.cst (.int 2)) (.call "_law_draw" (.pool 1 (.cons (.cst (.int 4)) .nil))))) (.cons (.app 2 (.lent [2] (.call "_law_fresh" (.pool 1 (.cons (.var 2) .nil)))))
  .nil))
  (.cons (.frz [2] (.set 4 (.call "_law_fresh" (.pool 1 (.cons (.var 2) .nil)))))
  (.cons (.frz [2] (.set 5 (.ix (.var 2) (.call "_law_draw" (.pool 1 (.cons (.olen 2) .nil))))))
  (.cons (.frz [2] (.set 6 (.ix (.var 2) (.call "_law_draw" (.pool 1 (.cons (.olen 2) .nil))))))
  (.cons (.frz [2] (.set 7 (.call "_law_plain_rows" (.pool 1 (.cons (.var 2) (.cons (.var 5) (.cons (.var 6) (.cons (.var 4) .nil))))))))
  (.cons (.frz [2] (.set 7 (.bin .add (.var 7) (.call "_law_call_rows" (.pool 1 (.cons (.var 2) (.cons (.var 5) (.cons (.var 4) (.cons (.lst (.cons (.cst (.str "worth")) (.cons (.cst (.str "lent")) (.cons (.cst (.str "worth")) .nil)))) .nil)))))))))
  (.cons (.set 8 (.lc 3 (.rng1 (.call "_law_draw" (.pool 1 (.cons (.cst (.int 4)) .nil)))) .nil (.ix (.lst (.cons (.cst (.str "worth")) (.cons (.cst (.str "lent")) .nil))) (.call "_law_draw" (.pool 1 (.cons (.cst (.int 2)) .nil))))))
  (.cons (.frz [2] (.set 7 (.bin .add (.var 7) (.call "_law_call_rows" (.pool 1 (.cons (.var 2) (.cons (.var 6) (.cons (.var 4) (.cons (.var 8) .nil)))))))))
  (.cons (.frz [2] (.set 7 (.bin .add (.var 7) (.call "_law_call_rows" (.pool 1 (.cons (.var 2) (.cons (.var 6) (.cons (.var 4) (.cons (.lst (.cons (.cst (.str "lent")) (.cons (.cst (.str "worth")) (.cons (.cst (.str "lent")) .nil)))) .nil)))))))))
  (.cons (.forr (.many [9, 10, 11, 12]) (.seq (.bin .add (.var 7) (.sl (.var 7) .non (.some (.cst (.int 6)))))) (.cons (.iff (.or (.not (.call "_law_same" (.cons (.call "names_read" (.cons (.var 9) .nil)) (.cons (.bi .tuple (.cons (.var 10) .nil)) .nil)))) (.not (.call "_law_same" (.cons (.call "names_set" (.cons (.var 9) .nil)) (.cons (.bi .tuple (.cons (.var 11) .nil)) .nil))))) (.cons (.ret (.cst (.bl false)))
  .nil) .nil)
  (.cons (.iff (.not (.call "_law_same" (.cons (.call "names_lent" (.cons (.var 9) .nil)) (.cons (.bi .tuple (.cons (.var 12) .nil)) .nil)))) (.cons (.ret (.cst (.bl false)))
  .nil) .nil)
  .nil)))
  (.cons (.ret (.cst (.bl true)))
  .nil))))))))))))⟩
end K4

set_option Elab.async false
set_option linter.all false
set_option maxRecDepth 100000
set_option maxHeartbeats 4000000
namespace K4
open PySem L2 Ip
def top (i : Nat) : Stmt := PySem.Challenge.pw_quickways_k04_names_of_rows.main.body.getD i (.Pass ⟨0, 0, 0, 0⟩)
def n_names_read : List Str := ["row", "found", "expr", "leaf"]
abbrev g_names_read (K : PySem.W.Frag) (cl : Cl) : Gam := ⟨n_names_read, defScope (top 1), K, cl, ["row_exprs", "leaves"], ["tuple"]⟩
theorem d_names_read (K : PySem.W.Frag) (cl : Cl) : SSs (g_names_read K cl) (defBody (top 1)) I_names_read.body :=
(sss_cons (ss_iff (cmp_st cEq (ix_se (se_var 0) se_int) se_str rfl)
(sss_cons (ss_ret (tup_se (sa_cons (ix_se (se_var 0) se_int) sa_nil)))
sss_nil)
sss_nil)
(sss_cons (ss_own 1 (lst_sf sa_nil))
(sss_cons (ss_for (si_seq (call_se (sg_cons (se_var 0) sg_nil))) (tg_one 2)
(sss_cons (ss_ext 1 (lc_se 3 (si_seq (call_se (sg_cons (se_var 2) sg_nil))) (sts_one (cmp_st cEq (ix_se (se_var 3) se_int) se_str rfl)) (ix_se (se_var 3) se_int)))
sss_nil))
(sss_cons (ss_frz [1] (ss_ret (tuple_se (se_var 1))))
sss_nil))))
theorem s_names_read : FnScope n_names_read ["row"] (defScope (top 1)) := ⟨rfl, rfl, rfl, by decide +kernel, rfl, by decide +kernel, by decide +kernel⟩
def n_names_set : List Str := ["row"]
abbrev g_names_set (K : PySem.W.Frag) (cl : Cl) : Gam := ⟨n_names_set, defScope (top 2), K, cl, [], []⟩
theorem d_names_set (K : PySem.W.Frag) (cl : Cl) : SSs (g_names_set K cl) (defBody (top 2)) I_names_set.body :=
(sss_cons (ss_iff (cmp_st cIn (ix_se (se_var 0) se_int) (tup_se (sa_cons se_str (sa_cons se_str sa_nil))) rfl)
(sss_cons (ss_ret (tup_se (sa_cons (ix_se (se_var 0) se_int) sa_nil)))
sss_nil)
sss_nil)
(sss_cons (ss_iff (st_sw (sw_and (cmp_st cIn (ix_se (se_var 0) se_int) (tup_se (sa_cons se_str (sa_cons se_str sa_nil))) rfl) (sw_and1 (cmp_st cIsN (ix_se (se_var 0) se_int) se_non rfl))))
(sss_cons (ss_ret (tup_se (sa_cons (ix_se (se_var 0) se_int) sa_nil)))
sss_nil)
sss_nil)
(sss_cons (ss_iff (st_sw (sw_and (cmp_st cEq (ix_se (se_var 0) se_int) se_str rfl) (sw_and1 (cmp_st cEq (ix_se (ix_se (se_var 0) se_int) se_int) se_str rfl))))
(sss_cons (ss_ret (tup_se (sa_cons (ix_se (ix_se (se_var 0) se_int) se_int) sa_nil)))
sss_nil)
sss_nil)
(sss_cons (ss_ret (tup_se sa_nil))
sss_nil))))
theorem s_names_set : FnScope n_names_set ["row"] (defScope (top 2)) := ⟨rfl, rfl, rfl, by decide +kernel, rfl, by decide +kernel, by decide +kernel⟩
def n_names_lent : List Str := ["row", "arg"]
abbrev g_names_lent (K : PySem.W.Frag) (cl : Cl) : Gam := ⟨n_names_lent, defScope (top 3), K, cl, ["row_args"], ["tuple"]⟩
theorem d_names_lent (K : PySem.W.Frag) (cl : Cl) : SSs (g_names_lent K cl) (defBody (top 3)) I_names_lent.body :=
(sss_cons (ss_ret (tuple_se (lc_se 1 (si_seq (call_se (sg_cons (se_var 0) sg_nil))) (sts_one (cmp_st cEq (ix_se (se_var 1) se_int) se_str rfl)) (ix_se (se_var 1) se_int))))
sss_nil)
theorem s_names_lent : FnScope n_names_lent ["row"] (defScope (top 3)) := ⟨rfl, rfl, rfl, by decide +kernel, rfl, by decide +kernel, by decide +kernel⟩
def n_row_args : List Str := ["row"]
abbrev g_row_args (K : PySem.W.Frag) (cl : Cl) : Gam := ⟨n_row_args, defScope (top 4), K, cl, [], []⟩
theorem d_row_args (K : PySem.W.Frag) (cl : Cl) : SSs (g_row_args K cl) (defBody (top 4)) I_row_args.body :=
(sss_cons (ss_iff (cmp_st cIn (ix_se (se_var 0) se_int) (tup_se (sa_cons se_str (sa_cons se_str sa_nil))) rfl)
(sss_cons (ss_ret (ix_se (se_var 0) se_int))
sss_nil)
sss_nil)
(sss_cons (ss_ret (tup_se sa_nil))
sss_nil))
theorem s_row_args : FnScope n_row_args ["row"] (defScope (top 4)) := ⟨rfl, rfl, rfl, by decide +kernel, rfl, by decide +kernel, by decide +kernel⟩
def n_row_exprs : List Str := ["row", "arg"]
abbrev g_row_exprs (K : PySem.W.Frag) (cl : Cl) : Gam := ⟨n_row_exprs, defScope (top 5), K, cl, ["row_args"], ["tuple"]⟩
theorem d_row_exprs (K : PySem.W.Frag) (cl : Cl) : SSs (g_row_exprs K cl) (defBody (top 5)) I_row_exprs.body :=
(sss_cons (ss_iff (cmp_st cEq (ix_se (se_var 0) se_int) se_str rfl)
(sss_cons (ss_ret (tup_se (sa_cons (ix_se (se_var 0) se_int) sa_nil)))
sss_nil)
sss_nil)
(sss_cons (ss_iff (cmp_st cEq (ix_se (se_var 0) se_int) se_str rfl)
(sss_cons (ss_ret (tup_se (sa_cons (ix_se (se_var 0) se_int) sa_nil)))
sss_nil)
sss_nil)
(sss_cons (ss_iff (cmp_st cIn (ix_se (se_var 0) se_int) (tup_se (sa_cons se_str (sa_cons se_str (sa_cons se_str sa_nil)))) rfl)
(sss_cons (ss_ret (tup_se (sa_cons (ix_se (se_var 0) se_int) sa_nil)))
sss_nil)
sss_nil)
(sss_cons (ss_iff (cmp_st cEq (ix_se (se_var 0) se_int) se_str rfl)
(sss_cons (ss_ret (tup_se (sa_cons (ix_se (ix_se (se_var 0) se_int) (se_neg se_int)) sa_nil)))
sss_nil)
sss_nil)
(sss_cons (ss_ret (tuple_se (lc_se 1 (si_seq (call_se (sg_cons (se_var 0) sg_nil))) (sts_one (cmp_st cEq (ix_se (se_var 1) se_int) se_str rfl)) (ix_se (se_var 1) se_int))))
sss_nil)))))
theorem s_row_exprs : FnScope n_row_exprs ["row"] (defScope (top 5)) := ⟨rfl, rfl, rfl, by decide +kernel, rfl, by decide +kernel, by decide +kernel⟩
def n_leaves : List Str := ["expr"]
abbrev g_leaves (K : PySem.W.Frag) (cl : Cl) : Gam := ⟨n_leaves, defScope (top 6), K, cl, ["leaves"], []⟩
theorem d_leaves (K : PySem.W.Frag) (cl : Cl) : SSs (g_leaves K cl) (defBody (top 6)) I_leaves.body :=
(sss_cons (ss_iff (cmp_st cIn (ix_se (se_var 0) se_int) (tup_se (sa_cons se_str (sa_cons se_str sa_nil))) rfl)
(sss_cons (ss_ret (lst_se (sa_cons (se_var 0) sa_nil)))
sss_nil)
sss_nil)
(sss_cons (ss_ret (bin_add (call_se (sg_cons (ix_se (se_var 0) se_int) sg_nil)) (call_se (sg_cons (ix_se (se_var 0) se_int) sg_nil))))
sss_nil))
theorem s_leaves : FnScope n_leaves ["expr"] (defScope (top 6)) := ⟨rfl, rfl, rfl, by decide +kernel, rfl, by decide +kernel, by decide +kernel⟩
def n_law_mixed : List Str := ["_law_cell", "_law_turn", "_law_limit", "_law_first", "_law_second", "_law_third"]
abbrev g_law_mixed (K : PySem.W.Frag) (cl : Cl) : Gam := ⟨n_law_mixed, defScope (top 9), K, cl, [], ["int"]⟩
theorem d_law_mixed (K : PySem.W.Frag) (cl : Cl) : SSs (g_law_mixed K cl) (defBody (top 9)) I_law_mixed.body :=
(sss_cons (ss_set 3 (bin_mod (int_se (bin_add (bin_add (bin_mul (se_var 0) se_int) (bin_mul (se_var 1) se_int)) se_int)) se_int))
(sss_cons (ss_set 4 (bin_mod (int_se (bin_add (bin_add (bin_mul (se_var 3) se_int) (bin_mul (se_var 0) se_int)) (bin_mul (se_var 1) se_int))) se_int))
(sss_cons (ss_set 5 (bin_mod (int_se (bin_add (bin_mul (se_var 4) se_int) (bin_fdv (se_var 3) se_int))) se_int))
(sss_cons (ss_ret (bin_mod (int_se (se_var 5)) (se_var 2)))
sss_nil))))
theorem s_law_mixed : FnScope n_law_mixed ["_law_cell", "_law_turn", "_law_limit"] (defScope (top 9)) := ⟨rfl, rfl, rfl, by decide +kernel, rfl, by decide +kernel, by decide +kernel⟩
def n_law_draw : List Str := ["_law_pool_here", "_law_limit", "_law_digit", "_law_cell"]
abbrev g_law_draw (K : PySem.W.Frag) (cl : Cl) : Gam := ⟨n_law_draw, defScope (top 10), K, cl, ["_law_mixed"], ["int", "len"]⟩
theorem d_law_draw (K : PySem.W.Frag) (cl : Cl) : SSs (g_law_draw K cl) (defBody (top 10)) I_law_draw.body :=
(sss_cons (ss_iff (cmp_st cGt (pix_se 0 2) se_int rfl)
(sss_cons (ss_set 2 (bin_mod (int_se (pix_se 0 2)) (se_var 1)))
(sss_cons (ss_pput 0 2 (bin_fdv (pix_se 0 2) (se_var 1)))
(sss_cons (ss_ret (se_var 2))
sss_nil)))
sss_nil)
(sss_cons (ss_iff (cmp_st cGt (pix_se 0 4) se_int rfl)
(sss_cons (ss_pput 0 4 (bin_sub (pix_se 0 4) se_int))
(sss_cons (ss_ret (call_se (sg_cons (pix_se 0 3) (sg_cons (pix_se 0 4) (sg_cons (se_var 1) sg_nil)))))
sss_nil))
sss_nil)
(sss_cons (ss_iff (cmp_st cGe (pix_se 0 1) (plen_se 0) rfl)
(sss_cons (ss_ret se_int)
sss_nil)
sss_nil)
(sss_cons (ss_set 3 (pcel_se 0))
(sss_cons (ss_pput 0 1 (bin_add (pix_se 0 1) se_int))
(sss_cons (ss_iff (cmp_st cLt (se_var 3) se_int rfl)
(sss_cons (ss_set 3 (bin_sub (se_neg se_int) (se_var 3)))
sss_nil)
sss_nil)
(sss_cons (ss_iff (cmp_st cGe (se_var 3) (bin_pow se_int se_int) rfl)
(sss_cons (ss_pput 0 2 (bin_fdv (se_var 3) (se_var 1)))
(sss_cons (ss_ret (bin_mod (int_se (se_var 3)) (se_var 1)))
sss_nil))
sss_nil)
(sss_cons (ss_pput 0 3 (se_var 3))
(sss_cons (ss_pput 0 4 se_int)
(sss_cons (ss_ret (call_se (sg_cons (se_var 3) (sg_cons se_int (sg_cons (se_var 1) sg_nil)))))
sss_nil))))))))))
theorem s_law_draw : FnScope n_law_draw ["_law_pool_here", "_law_limit"] (defScope (top 10)) := ⟨rfl, rfl, rfl, by decide +kernel, rfl, by decide +kernel, by decide +kernel⟩
def n_law_kinds : List Str := []
abbrev g_law_kinds (K : PySem.W.Frag) (cl : Cl) : Gam := ⟨n_law_kinds, defScope (top 11), K, cl, [], []⟩
theorem d_law_kinds (K : PySem.W.Frag) (cl : Cl) : SSs (g_law_kinds K cl) (defBody (top 11)) I_law_kinds.body :=
(sss_cons (ss_ret (lst_se (sa_cons se_str (sa_cons se_str (sa_cons se_str (sa_cons se_str (sa_cons se_str (sa_cons se_str (sa_cons se_str sa_nil)))))))))
sss_nil)
theorem s_law_kinds : FnScope n_law_kinds [] (defScope (top 11)) := ⟨rfl, rfl, rfl, by decide +kernel, rfl, by decide +kernel, by decide +kernel⟩
def n_law_word : List Str := ["_law_pool_here", "_law_first", "_law_signs", "_law_more", "_law_word_here", "_law_k"]
abbrev g_law_word (K : PySem.W.Frag) (cl : Cl) : Gam := ⟨n_law_word, defScope (top 12), K, cl, ["_law_draw"], ["range", "len"]⟩
theorem d_law_word (K : PySem.W.Frag) (cl : Cl) : SSs (g_law_word K cl) (defBody (top 12)) I_law_word.body :=
(sss_cons (ss_set 4 (ix_se (se_var 1) (call_se (sg_pool 0 (sg_cons (len_se (se_var 1)) sg_nil)))))
(sss_cons (ss_for (si_rng1 (se_var 3)) (tg_one 5)
(sss_cons (ss_set 4 (bin_add (se_var 4) (ix_se (se_var 2) (call_se (sg_pool 0 (sg_cons (len_se (se_var 2)) sg_nil))))))
sss_nil))
(sss_cons (ss_ret (se_var 4))
sss_nil)))
theorem s_law_word : FnScope n_law_word ["_law_pool_here", "_law_first", "_law_signs", "_law_more"] (defScope (top 12)) := ⟨rfl, rfl, rfl, by decide +kernel, rfl, by decide +kernel, by decide +kernel⟩
def n_law_fresh : List Str := ["_law_pool_here", "_law_used", "_law_letters", "_law_more", "_law_name", "_law_k"]
abbrev g_law_fresh (K : PySem.W.Frag) (cl : Cl) : Gam := ⟨n_law_fresh, defScope (top 13), K, cl, ["_law_kinds", "_law_word", "_law_draw"], ["range", "str"]⟩
theorem d_law_fresh (K : PySem.W.Frag) (cl : Cl) : SSs (g_law_fresh K cl) (defBody (top 13)) I_law_fresh.body :=
(sss_cons (ss_set 2 se_str)
(sss_cons (ss_set 3 (call_se (sg_pool 0 (sg_cons se_int sg_nil))))
(sss_cons (ss_iff (cmp_st cEq (se_var 3) se_int rfl)
(sss_cons (ss_set 3 (call_se (sg_pool 0 (sg_cons se_int sg_nil))))
sss_nil)
sss_nil)
(sss_cons (ss_set 4 (call_se (sg_pool 0 (sg_cons (se_var 2) (sg_cons (bin_add (se_var 2) se_str) (sg_cons (se_var 3) sg_nil))))))
(sss_cons (ss_for (si_rng1 se_int) (tg_one 5)
(sss_cons (ss_iff (st_sw (sw_and (cmp_st cNotIn (se_var 4) (se_var 1) rfl) (sw_and (cmp_st cNotIn (se_var 4) call0_se rfl) (sw_and1 (cmp_st cNotIn (se_var 4) (lst_se (sa_cons se_str (sa_cons se_str sa_nil))) rfl)))))
(sss_cons (ss_ret (se_var 4))
sss_nil)
sss_nil)
(sss_cons (ss_set 4 (bin_add (sl_se (se_var 4) so_non (so_some se_int)) (str_se (se_var 5))))
sss_nil)))
(sss_cons (ss_ret (se_var 4))
sss_nil))))))
theorem s_law_fresh : FnScope n_law_fresh ["_law_pool_here", "_law_used"] (defScope (top 13)) := ⟨rfl, rfl, rfl, by decide +kernel, rfl, by decide +kernel, by decide +kernel⟩
def n_law_literal : List Str := ["_law_pool_here", "_law_choice", "_law_letters"]
abbrev g_law_literal (K : PySem.W.Frag) (cl : Cl) : Gam := ⟨n_law_literal, defScope (top 14), K, cl, ["_law_word", "_law_draw"], []⟩
theorem d_law_literal (K : PySem.W.Frag) (cl : Cl) : SSs (g_law_literal K cl) (defBody (top 14)) I_law_literal.body :=
(sss_cons (ss_set 1 (call_se (sg_pool 0 (sg_cons se_int sg_nil))))
(sss_cons (ss_iff (cmp_st cEq (se_var 1) se_int rfl)
(sss_cons (ss_ret (call_se (sg_pool 0 (sg_cons se_int sg_nil))))
sss_nil)
sss_nil)
(sss_cons (ss_iff (cmp_st cEq (se_var 1) se_int rfl)
(sss_cons (ss_ret (bin_sub (call_se (sg_pool 0 (sg_cons se_int sg_nil))) se_int))
sss_nil)
sss_nil)
(sss_cons (ss_iff (cmp_st cEq (se_var 1) se_int rfl)
(sss_cons (ss_ret (ix_se (lst_se (sa_cons (se_neg se_int) (sa_cons (se_neg se_int) (sa_cons (se_neg se_int) (sa_cons se_int (sa_cons se_int (sa_cons se_int sa_nil))))))) (call_se (sg_pool 0 (sg_cons se_int sg_nil)))))
sss_nil)
sss_nil)
(sss_cons (ss_iff (cmp_st cEq (se_var 1) se_int rfl)
(sss_cons (ss_ret (call_se (sg_pool 0 (sg_cons se_int sg_nil))))
sss_nil)
sss_nil)
(sss_cons (ss_set 2 se_str)
(sss_cons (ss_ret (call_se (sg_pool 0 (sg_cons (se_var 2) (sg_cons (se_var 2) (sg_cons (call_se (sg_pool 0 (sg_cons se_int sg_nil))) sg_nil))))))
sss_nil)))))))
theorem s_law_literal : FnScope n_law_literal ["_law_pool_here"] (defScope (top 14)) := ⟨rfl, rfl, rfl, by decide +kernel, rfl, by decide +kernel, by decide +kernel⟩
def n_law_kind : List Str := ["_law_pool_here"]
abbrev g_law_kind (K : PySem.W.Frag) (cl : Cl) : Gam := ⟨n_law_kind, defScope (top 15), K, cl, ["_law_kinds", "_law_draw"], []⟩
theorem d_law_kind (K : PySem.W.Frag) (cl : Cl) : SSs (g_law_kind K cl) (defBody (top 15)) I_law_kind.body :=
(sss_cons (ss_iff (cmp_st cEq (call_se (sg_pool 0 (sg_cons se_int sg_nil))) se_int rfl)
(sss_cons (ss_ret se_non)
sss_nil)
sss_nil)
(sss_cons (ss_ret (ix_se call0_se (call_se (sg_pool 0 (sg_cons se_int sg_nil)))))
sss_nil))
theorem s_law_kind : FnScope n_law_kind ["_law_pool_here"] (defScope (top 15)) := ⟨rfl, rfl, rfl, by decide +kernel, rfl, by decide +kernel, by decide +kernel⟩
def n_law_is_int : List Str := ["_law_thing"]
abbrev g_law_is_int (K : PySem.W.Frag) (cl : Cl) : Gam := ⟨n_law_is_int, defScope (top 16), K, cl, [], ["isinstance", "int", "bool"]⟩
theorem d_law_is_int (K : PySem.W.Frag) (cl : Cl) : SSs (g_law_is_int K cl) (defBody (top 16)) I_law_is_int.body :=
(sss_cons (ss_ret (se_and (isi_se .int (se_var 0)) (se_one (se_not (isi_se .bool (se_var 0))))))
sss_nil)
theorem s_law_is_int : FnScope n_law_is_int ["_law_thing"] (defScope (top 16)) := ⟨rfl, rfl, rfl, by decide +kernel, rfl, by decide +kernel, by decide +kernel⟩
def n_law_same : List Str := ["_law_mine", "_law_due", "_law_k"]
abbrev g_law_same (K : PySem.W.Frag) (cl : Cl) : Gam := ⟨n_law_same, defScope (top 17), K, cl, ["_law_same", "_law_is_int"], ["range", "len", "isinstance", "tuple", "list", "str", "int", "bool"]⟩
theorem d_law_same (K : PySem.W.Frag) (cl : Cl) : SSs (g_law_same K cl) (defBody (top 17)) I_law_same.body :=
(sss_cons (ss_iff (cmp_st cIs (se_var 1) se_non rfl)
(sss_cons (ss_ret (cmp_se cIs (se_var 0) se_non rfl))
sss_nil)
sss_nil)
(sss_cons (ss_iff (st_se (isi_se .bool (se_var 1)))
(sss_cons (ss_ret (se_and (isi_se .bool (se_var 0)) (se_one (cmp_se cEq (se_var 0) (se_var 1) rfl))))
sss_nil)
sss_nil)
(sss_cons (ss_iff (st_se (isi_se .int (se_var 1)))
(sss_cons (ss_ret (se_and (call_se (sg_cons (se_var 0) sg_nil)) (se_one (cmp_se cEq (se_var 0) (se_var 1) rfl))))
sss_nil)
sss_nil)
(sss_cons (ss_iff (st_se (isi_se .str (se_var 1)))
(sss_cons (ss_ret (se_and (isi_se .str (se_var 0)) (se_one (cmp_se cEq (se_var 0) (se_var 1) rfl))))
sss_nil)
sss_nil)
(sss_cons (ss_iff (st_sw (sw_and (st_se (isi_se .list (se_var 1))) (sw_and1 (st_not (st_se (isi_se .list (se_var 0)))))))
(sss_cons (ss_ret se_bl)
sss_nil)
sss_nil)
(sss_cons (ss_iff (st_sw (sw_and (st_se (isi_se .tuple (se_var 1))) (sw_and1 (st_not (st_se (isi_se .tuple (se_var 0)))))))
(sss_cons (ss_ret se_bl)
sss_nil)
sss_nil)
(sss_cons (ss_iff (cmp_st cNe (len_se (se_var 0)) (len_se (se_var 1)) rfl)
(sss_cons (ss_ret se_bl)
sss_nil)
sss_nil)
(sss_cons (ss_for (si_rng1 (len_se (se_var 1))) (tg_one 2)
(sss_cons (ss_iff (st_not (st_se (call_se (sg_cons (ix_se (se_var 0) (se_var 2)) (sg_cons (ix_se (se_var 1) (se_var 2)) sg_nil)))))
(sss_cons (ss_ret se_bl)
sss_nil)
sss_nil)
sss_nil))
(sss_cons (ss_ret se_bl)
sss_nil)))))))))
theorem s_law_same : FnScope n_law_same ["_law_mine", "_law_due"] (defScope (top 17)) := ⟨rfl, rfl, rfl, by decide +kernel, rfl, by decide +kernel, by decide +kernel⟩
def n_law_grown : List Str := ["_law_pool_here", "_law_names", "_law_depth", "_law_choice", "_law_word_here", "_law_first", "_law_second", "_law_name"]
abbrev g_law_grown (K : PySem.W.Frag) (cl : Cl) : Gam := ⟨n_law_grown, defScope (top 18), K, cl, ["_law_draw", "_law_literal", "_law_grown"], ["len"]⟩
theorem d_law_grown (K : PySem.W.Frag) (cl : Cl) : SSs (g_law_grown K cl) (defBody (top 18)) I_law_grown.body :=
(sss_cons (ss_set 3 (call_se (sg_pool 0 (sg_cons se_int sg_nil))))
(sss_cons (ss_iff (st_sw (sw_and (cmp_st cGt (se_var 2) se_int rfl) (sw_and1 (cmp_st cIn (se_var 3) (lst_se (sa_cons se_int (sa_cons se_int sa_nil))) rfl))))
(sss_cons (ss_set 4 (ix_se (lst_se (sa_cons se_str (sa_cons se_str (sa_cons se_str (sa_cons se_str sa_nil))))) (call_se (sg_pool 0 (sg_cons se_int sg_nil)))))
(sss_cons (ss_set 5 (call_se (sg_pool 0 (sg_cons (se_var 1) (sg_cons (bin_sub (se_var 2) se_int) sg_nil)))))
(sss_cons (ss_set 6 (call_se (sg_pool 0 (sg_cons (se_var 1) (sg_cons (bin_sub (se_var 2) se_int) sg_nil)))))
(sss_cons (ss_ret (lst_se (sa_cons (tup_se (sa_cons (se_var 4) (sa_cons (ix_se (se_var 5) se_int) (sa_cons (ix_se (se_var 6) se_int) sa_nil)))) (sa_cons (bin_add (ix_se (se_var 5) se_int) (ix_se (se_var 6) se_int)) sa_nil))))
sss_nil))))
sss_nil)
(sss_cons (ss_iff (cmp_st cEq (se_var 3) se_int rfl)
(sss_cons (ss_ret (lst_se (sa_cons (tup_se (sa_cons se_str (sa_cons (call_se (sg_pool 0 sg_nil)) sa_nil))) (sa_cons (lst_se sa_nil) sa_nil))))
sss_nil)
sss_nil)
(sss_cons (ss_set 7 (ix_se (se_var 1) (call_se (sg_pool 0 (sg_cons (len_se (se_var 1)) sg_nil)))))
(sss_cons (ss_ret (lst_se (sa_cons (tup_se (sa_cons se_str (sa_cons (se_var 7) sa_nil))) (sa_cons (lst_se (sa_cons (se_var 7) sa_nil)) sa_nil))))
sss_nil)))))
theorem s_law_grown : FnScope n_law_grown ["_law_pool_here", "_law_names", "_law_depth"] (defScope (top 18)) := ⟨rfl, rfl, rfl, by decide +kernel, rfl, by decide +kernel, by decide +kernel⟩
def n_law_args_grown : List Str := ["_law_pool_here", "_law_names", "_law_forms", "_law_args", "_law_reads", "_law_lends", "_law_form", "_law_name", "_law_made"]
abbrev g_law_args_grown (K : PySem.W.Frag) (cl : Cl) : Gam := ⟨n_law_args_grown, defScope (top 19), K, cl, ["_law_draw", "_law_grown"], ["len"]⟩
theorem d_law_args_grown (K : PySem.W.Frag) (cl : Cl) : SSs (g_law_args_grown K cl) (defBody (top 19)) I_law_args_grown.body :=
(sss_cons (ss_set 3 (tup_se sa_nil))
(sss_cons (ss_set 4 (lst_se sa_nil))
(sss_cons (ss_own 5 (lst_sf sa_nil))
(sss_cons (ss_for (si_seq (se_var 2)) (tg_one 6)
(sss_cons (ss_iff (cmp_st cEq (se_var 6) se_str rfl)
(sss_cons (ss_set 7 (ix_se (se_var 1) (call_se (sg_pool 0 (sg_cons (len_se (se_var 1)) sg_nil)))))
(sss_cons (ss_set 3 (bin_add (se_var 3) (tup_se (sa_cons (tup_se (sa_cons se_str (sa_cons (se_var 7) sa_nil))) sa_nil))))
(sss_cons (ss_app 5 (se_var 7))
sss_nil)))
(sss_cons (ss_set 8 (call_se (sg_pool 0 (sg_cons (se_var 1) (sg_cons se_int sg_nil)))))
(sss_cons (ss_set 3 (bin_add (se_var 3) (tup_se (sa_cons (tup_se (sa_cons se_str (sa_cons (ix_se (se_var 8) se_int) sa_nil))) sa_nil))))
(sss_cons (ss_set 4 (bin_add (se_var 4) (ix_se (se_var 8) se_int)))
sss_nil))))
sss_nil))
(sss_cons (ss_frz [5] (ss_ret (lst_se (sa_cons (se_var 3) (sa_cons (se_var 4) (sa_cons (se_var 5) sa_nil))))))
sss_nil)))))
theorem s_law_args_grown : FnScope n_law_args_grown ["_law_pool_here", "_law_names", "_law_forms"] (defScope (top 19)) := ⟨rfl, rfl, rfl, by decide +kernel, rfl, by decide +kernel, by decide +kernel⟩
def n_law_plain_rows : List Str := ["_law_pool_here", "_law_names", "_law_x", "_law_y", "_law_own", "_law_kind_here", "_law_guard", "_law_inner", "_law_fixed", "_law_rows", "_law_made"]
abbrev g_law_plain_rows (K : PySem.W.Frag) (cl : Cl) : Gam := ⟨n_law_plain_rows, defScope (top 20), K, cl, ["_law_grown", "_law_kind", "_law_draw", "_law_kinds"], []⟩
theorem d_law_plain_rows (K : PySem.W.Frag) (cl : Cl) : SSs (g_law_plain_rows K cl) (defBody (top 20)) I_law_plain_rows.body :=
(sss_cons (ss_set 5 (ix_se call0_se (call_se (sg_pool 0 (sg_cons se_int sg_nil)))))
(sss_cons (ss_set 6 (ix_se (lst_se (sa_cons se_str (sa_cons se_str (sa_cons se_str sa_nil)))) (call_se (sg_pool 0 (sg_cons se_int sg_nil)))))
(sss_cons (ss_set 7 (tup_se (sa_cons (tup_se (sa_cons se_str (sa_cons (se_var 3) (sa_cons (tup_se (sa_cons se_str (sa_cons (se_var 2) sa_nil))) sa_nil)))) (sa_cons (tup_se (sa_cons se_str (sa_cons (se_var 3) (sa_cons (se_var 4) (sa_cons (tup_se (sa_cons (tup_se (sa_cons se_str (sa_cons (se_var 2) sa_nil))) (sa_cons (tup_se (sa_cons se_str (sa_cons (tup_se (sa_cons se_str (sa_cons (se_var 3) sa_nil))) sa_nil))) sa_nil))) sa_nil))))) sa_nil))))
(sss_cons (ss_set 8 (tup_se (sa_cons se_str (sa_cons (tup_se (sa_cons se_str (sa_cons (ix_se (se_var 1) se_int) sa_nil))) (sa_cons (tup_se (sa_cons se_str (sa_cons (tup_se (sa_cons se_str (sa_cons (ix_se (se_var 1) se_int) sa_nil))) (sa_cons (tup_se (sa_cons se_str (sa_cons (ix_se (se_var 1) se_int) sa_nil))) sa_nil)))) sa_nil)))))
(sss_cons (ss_own 9 (lst_sf (sa_cons (lst_se (sa_cons (tup_se (sa_cons se_str (sa_cons (se_var 8) sa_nil))) (sa_cons (lst_se (sa_cons (ix_se (se_var 1) se_int) (sa_cons (ix_se (se_var 1) se_int) (sa_cons (ix_se (se_var 1) se_int) sa_nil)))) (sa_cons (lst_se sa_nil) (sa_cons (lst_se sa_nil) sa_nil))))) sa_nil)))
(sss_cons (ss_app 9 (lst_se (sa_cons (tup_se (sa_cons se_str (sa_cons (tup_se (sa_cons se_str (sa_cons (tup_se (sa_cons se_str (sa_cons (sl_se (ix_se (se_var 1) se_int) so_non (so_some se_int)) sa_nil))) (sa_cons (tup_se (sa_cons se_str (sa_cons (se_var 2) sa_nil))) sa_nil)))) sa_nil))) (sa_cons (lst_se (sa_cons (se_var 2) sa_nil)) (sa_cons (lst_se sa_nil) (sa_cons (lst_se sa_nil) sa_nil))))))
(sss_cons (ss_app 9 (lst_se (sa_cons (tup_se (sa_cons se_str (sa_cons (se_var 3) sa_nil))) (sa_cons (lst_se sa_nil) (sa_cons (lst_se (sa_cons (se_var 3) sa_nil)) (sa_cons (lst_se sa_nil) sa_nil))))))
(sss_cons (ss_app 9 (lst_se (sa_cons (tup_se (sa_cons se_str (sa_cons (se_var 2) (sa_cons (se_var 4) sa_nil)))) (sa_cons (lst_se sa_nil) (sa_cons (lst_se (sa_cons (se_var 2) sa_nil)) (sa_cons (lst_se sa_nil) sa_nil))))))
(sss_cons (ss_app 9 (lst_se (sa_cons (tup_se (sa_cons se_str (sa_cons se_non (sa_cons (se_var 4) sa_nil)))) (sa_cons (lst_se sa_nil) (sa_cons (lst_se sa_nil) (sa_cons (lst_se sa_nil) sa_nil))))))
(sss_cons (ss_app 9 (lst_se (sa_cons (tup_se (sa_cons se_str (sa_cons (se_var 2) (sa_cons (se_var 5) sa_nil)))) (sa_cons (lst_se (sa_cons (se_var 2) sa_nil)) (sa_cons (lst_se sa_nil) (sa_cons (lst_se sa_nil) sa_nil))))))
(sss_cons (ss_app 9 (lst_se (sa_cons (tup_se (sa_cons se_str (sa_cons (bin_add se_int (call_se (sg_pool 0 (sg_cons se_int sg_nil)))) (sa_cons (se_var 7) sa_nil)))) (sa_cons (lst_se sa_nil) (sa_cons (lst_se sa_nil) (sa_cons (lst_se sa_nil) sa_nil))))))
(sss_cons (ss_set 10 (call_se (sg_pool 0 (sg_cons (se_var 1) (sg_cons se_int sg_nil)))))
(sss_cons (ss_app 9 (lst_se (sa_cons (tup_se (sa_cons se_str (sa_cons (se_var 4) (sa_cons (call_se (sg_pool 0 sg_nil)) (sa_cons (ix_se (se_var 10) se_int) sa_nil))))) (sa_cons (ix_se (se_var 10) se_int) (sa_cons (lst_se sa_nil) (sa_cons (lst_se sa_nil) sa_nil))))))
(sss_cons (ss_set 10 (call_se (sg_pool 0 (sg_cons (se_var 1) (sg_cons se_int sg_nil)))))
(sss_cons (ss_app 9 (lst_se (sa_cons (tup_se (sa_cons se_str (sa_cons (se_var 2) (sa_cons (ix_se (se_var 10) se_int) sa_nil)))) (sa_cons (ix_se (se_var 10) se_int) (sa_cons (lst_se (sa_cons (se_var 2) sa_nil)) (sa_cons (lst_se sa_nil) sa_nil))))))
(sss_cons (ss_set 10 (call_se (sg_pool 0 (sg_cons (se_var 1) (sg_cons se_int sg_nil)))))
(sss_cons (ss_app 9 (lst_se (sa_cons (tup_se (sa_cons se_str (sa_cons (ix_se (se_var 10) se_int) sa_nil))) (sa_cons (ix_se (se_var 10) se_int) (sa_cons (lst_se sa_nil) (sa_cons (lst_se sa_nil) sa_nil))))))
(sss_cons (ss_set 10 (call_se (sg_pool 0 (sg_cons (se_var 1) (sg_cons se_int sg_nil)))))
(sss_cons (ss_app 9 (lst_se (sa_cons (tup_se (sa_cons se_str (sa_cons (ix_se (se_var 10) se_int) sa_nil))) (sa_cons (ix_se (se_var 10) se_int) (sa_cons (lst_se sa_nil) (sa_cons (lst_se sa_nil) sa_nil))))))
(sss_cons (ss_set 10 (call_se (sg_pool 0 (sg_cons (se_var 1) (sg_cons se_int sg_nil)))))
(sss_cons (ss_app 9 (lst_se (sa_cons (tup_se (sa_cons se_str (sa_cons (ix_se (se_var 10) se_int) (sa_cons (se_var 7) (sa_cons (sl_se (se_var 7) (so_some se_int) so_non) sa_nil))))) (sa_cons (ix_se (se_var 10) se_int) (sa_cons (lst_se sa_nil) (sa_cons (lst_se sa_nil) sa_nil))))))
(sss_cons (ss_set 10 (call_se (sg_pool 0 (sg_cons (se_var 1) (sg_cons se_int sg_nil)))))
(sss_cons (ss_app 9 (lst_se (sa_cons (tup_se (sa_cons se_str (sa_cons (se_var 6) (sa_cons (tup_se (sa_cons se_str (sa_cons (ix_se (se_var 10) se_int) sa_nil))) sa_nil)))) (sa_cons (ix_se (se_var 10) se_int) (sa_cons (lst_se sa_nil) (sa_cons (lst_se sa_nil) sa_nil))))))
(sss_cons (ss_app 9 (lst_se (sa_cons (tup_se (sa_cons se_str (sa_cons (se_var 6) (sa_cons (tup_se (sa_cons se_str (sa_cons (se_var 3) (sa_cons (ix_se (se_var 10) se_int) sa_nil)))) sa_nil)))) (sa_cons (ix_se (se_var 10) se_int) (sa_cons (lst_se (sa_cons (se_var 3) sa_nil)) (sa_cons (lst_se sa_nil) sa_nil))))))
(sss_cons (ss_frz [9] (ss_ret (se_var 9)))
sss_nil)))))))))))))))))))))))))
theorem s_law_plain_rows : FnScope n_law_plain_rows ["_law_pool_here", "_law_names", "_law_x", "_law_y", "_law_own"] (defScope (top 20)) := ⟨rfl, rfl, rfl, by decide +kernel, rfl, by decide +kernel, by decide +kernel⟩
def n_law_call_rows : List Str := ["_law_pool_here", "_law_names", "_law_x", "_law_own", "_law_forms", "_law_task", "_law_rows", "_law_args", "_law_reads", "_law_lends"]
abbrev g_law_call_rows (K : PySem.W.Frag) (cl : Cl) : Gam := ⟨n_law_call_rows, defScope (top 21), K, cl, ["_law_args_grown", "_law_fresh"], []⟩
theorem d_law_call_rows (K : PySem.W.Frag) (cl : Cl) : SSs (g_law_call_rows K cl) (defBody (top 21)) I_law_call_rows.body :=
(sss_cons (ss_set 5 (call_se (sg_pool 0 (sg_cons (bin_add (se_var 1) (lst_se (sa_cons (se_var 3) sa_nil))) sg_nil))))
(sss_cons (ss_own 6 (lst_sf sa_nil))
(sss_cons (ss_unp (call_se (sg_pool 0 (sg_cons (se_var 1) (sg_cons (se_var 4) sg_nil)))) (tg_many (sgs_cons 7 (sgs_cons 8 (sgs_cons 9 sgs_nil)))))
(sss_cons (ss_app 6 (lst_se (sa_cons (tup_se (sa_cons se_str (sa_cons (se_var 2) (sa_cons (se_var 3) (sa_cons (se_var 7) sa_nil))))) (sa_cons (se_var 8) (sa_cons (lst_se (sa_cons (se_var 2) sa_nil)) (sa_cons (se_var 9) sa_nil))))))
(sss_cons (ss_app 6 (lst_se (sa_cons (tup_se (sa_cons se_str (sa_cons se_non (sa_cons (se_var 3) (sa_cons (se_var 7) sa_nil))))) (sa_cons (se_var 8) (sa_cons (lst_se sa_nil) (sa_cons (se_var 9) sa_nil))))))
(sss_cons (ss_app 6 (lst_se (sa_cons (tup_se (sa_cons se_str (sa_cons (se_var 5) (sa_cons (se_var 3) (sa_cons (se_var 7) sa_nil))))) (sa_cons (se_var 8) (sa_cons (lst_se sa_nil) (sa_cons (se_var 9) sa_nil))))))
(sss_cons (ss_frz [6] (ss_ret (se_var 6)))
sss_nil)))))))
theorem s_law_call_rows : FnScope n_law_call_rows ["_law_pool_here", "_law_names", "_law_x", "_law_own", "_law_forms"] (defScope (top 21)) := ⟨rfl, rfl, rfl, by decide +kernel, rfl, by decide +kernel, by decide +kernel⟩
def n_law : List Str := ["_law_script", "_law_pool_here", "_law_names", "_law_k", "_law_own", "_law_x", "_law_y", "_law_rows", "_law_forms", "_law_row", "_law_reads", "_law_sets", "_law_lends"]
abbrev g_law (K : PySem.W.Frag) (cl : Cl) : Gam := ⟨n_law, defScope (top 22), K, cl, ["_law_same", "names_lent", "names_read", "names_set", "_law_call_rows", "_law_draw", "_law_plain_rows", "_law_fresh"], ["tuple", "range", "len"]⟩
theorem d_law (K : PySem.W.Frag) (cl : Cl) : SSs (g_law K cl) (defBody (top 22)).tail I_law.body :=
(sss_cons (ss_own 2 (lst_sf sa_nil))
(sss_cons (ss_for (si_rng1 (bin_add se_int (call_se (sg_pool 1 (sg_cons se_int sg_nil))))) (tg_one 3)
(sss_cons (ss_app 2 (lent_se [2] (call_se (sg_pool 1 (sg_cons (se_var 2) sg_nil)))))
sss_nil))
(sss_cons (ss_frz [2] (ss_set 4 (call_se (sg_pool 1 (sg_cons (se_var 2) sg_nil)))))
(sss_cons (ss_frz [2] (ss_set 5 (ix_se (se_var 2) (call_se (sg_pool 1 (sg_cons (olen_se 2) sg_nil))))))
(sss_cons (ss_frz [2] (ss_set 6 (ix_se (se_var 2) (call_se (sg_pool 1 (sg_cons (olen_se 2) sg_nil))))))
(sss_cons (ss_frz [2] (ss_set 7 (call_se (sg_pool 1 (sg_cons (se_var 2) (sg_cons (se_var 5) (sg_cons (se_var 6) (sg_cons (se_var 4) sg_nil))))))))
(sss_cons (ss_frz [2] (ss_set 7 (bin_add (se_var 7) (call_se (sg_pool 1 (sg_cons (se_var 2) (sg_cons (se_var 5) (sg_cons (se_var 4) (sg_cons (lst_se (sa_cons se_str (sa_cons se_str (sa_cons se_str sa_nil)))) sg_nil)))))))))
(sss_cons (ss_lc 8 3 (si_rng1 (call_se (sg_pool 1 (sg_cons se_int sg_nil)))) sts_nil (ix_se (lst_se (sa_cons se_str (sa_cons se_str sa_nil))) (call_se (sg_pool 1 (sg_cons se_int sg_nil)))))
(sss_cons (ss_frz [2] (ss_set 7 (bin_add (se_var 7) (call_se (sg_pool 1 (sg_cons (se_var 2) (sg_cons (se_var 6) (sg_cons (se_var 4) (sg_cons (se_var 8) sg_nil)))))))))
(sss_cons (ss_frz [2] (ss_set 7 (bin_add (se_var 7) (call_se (sg_pool 1 (sg_cons (se_var 2) (sg_cons (se_var 6) (sg_cons (se_var 4) (sg_cons (lst_se (sa_cons se_str (sa_cons se_str (sa_cons se_str sa_nil)))) sg_nil)))))))))
(sss_cons (ss_for (si_seq (bin_add (se_var 7) (sl_se (se_var 7) so_non (so_some se_int)))) (tg_many (sgs_cons 9 (sgs_cons 10 (sgs_cons 11 (sgs_cons 12 sgs_nil)))))
(sss_cons (ss_iff (st_sw (sw_or (st_not (st_se (call_se (sg_cons (call_se (sg_cons (se_var 9) sg_nil)) (sg_cons (tuple_se (se_var 10)) sg_nil))))) (sw_or1 (st_not (st_se (call_se (sg_cons (call_se (sg_cons (se_var 9) sg_nil)) (sg_cons (tuple_se (se_var 11)) sg_nil))))))))
(sss_cons (ss_ret se_bl)
sss_nil)
sss_nil)
(sss_cons (ss_iff (st_not (st_se (call_se (sg_cons (call_se (sg_cons (se_var 9) sg_nil)) (sg_cons (tuple_se (se_var 12)) sg_nil)))))
(sss_cons (ss_ret se_bl)
sss_nil)
sss_nil)
sss_nil)))
(sss_cons (ss_ret se_bl)
sss_nil))))))))))))
theorem s_law : FnScope n_law ["_law_script"] (defScope (top 22)) := ⟨rfl, rfl, rfl, by decide +kernel, rfl, by decide +kernel, by decide +kernel⟩
end K4

set_option Elab.async false
set_option linter.all false
set_option maxRecDepth 100000
set_option maxHeartbeats 4000000
namespace K4
open PySem Ip
/-! The defs by their names, to a depth of calls. -/
def tb : Nat → Cl
  | 0 => noCl
  | n + 1 => fun f as st =>
    if f = "names_read" then runI 1 (tb n) I_names_read as st else
    if f = "names_set" then runI 1 (tb n) I_names_set as st else
    if f = "names_lent" then runI 1 (tb n) I_names_lent as st else
    if f = "row_args" then runI 1 (tb n) I_row_args as st else
    if f = "row_exprs" then runI 1 (tb n) I_row_exprs as st else
    if f = "leaves" then runI 1 (tb n) I_leaves as st else
    if f = "_law_mixed" then runI 3 (tb n) I_law_mixed as st else
    if f = "_law_draw" then runI 2 (tb n) I_law_draw as st else
    if f = "_law_kinds" then runI 0 (tb n) I_law_kinds as st else
    if f = "_law_word" then runI 4 (tb n) I_law_word as st else
    if f = "_law_fresh" then runI 2 (tb n) I_law_fresh as st else
    if f = "_law_literal" then runI 1 (tb n) I_law_literal as st else
    if f = "_law_kind" then runI 1 (tb n) I_law_kind as st else
    if f = "_law_is_int" then runI 1 (tb n) I_law_is_int as st else
    if f = "_law_same" then runI 2 (tb n) I_law_same as st else
    if f = "_law_grown" then runI 3 (tb n) I_law_grown as st else
    if f = "_law_args_grown" then runI 3 (tb n) I_law_args_grown as st else
    if f = "_law_plain_rows" then runI 5 (tb n) I_law_plain_rows as st else
    if f = "_law_call_rows" then runI 5 (tb n) I_law_call_rows as st else
    none
theorem tb_names_read (n : Nat) (as : List (Option PyData)) (st : Pl) : tb (n + 1) "names_read" as st = runI 1 (tb n) I_names_read as st := by rfl
theorem tb_names_set (n : Nat) (as : List (Option PyData)) (st : Pl) : tb (n + 1) "names_set" as st = runI 1 (tb n) I_names_set as st := by rfl
theorem tb_names_lent (n : Nat) (as : List (Option PyData)) (st : Pl) : tb (n + 1) "names_lent" as st = runI 1 (tb n) I_names_lent as st := by rfl
theorem tb_row_args (n : Nat) (as : List (Option PyData)) (st : Pl) : tb (n + 1) "row_args" as st = runI 1 (tb n) I_row_args as st := by rfl
theorem tb_row_exprs (n : Nat) (as : List (Option PyData)) (st : Pl) : tb (n + 1) "row_exprs" as st = runI 1 (tb n) I_row_exprs as st := by rfl
theorem tb_leaves (n : Nat) (as : List (Option PyData)) (st : Pl) : tb (n + 1) "leaves" as st = runI 1 (tb n) I_leaves as st := by rfl
theorem tb_law_mixed (n : Nat) (as : List (Option PyData)) (st : Pl) : tb (n + 1) "_law_mixed" as st = runI 3 (tb n) I_law_mixed as st := by rfl
theorem tb_law_draw (n : Nat) (as : List (Option PyData)) (st : Pl) : tb (n + 1) "_law_draw" as st = runI 2 (tb n) I_law_draw as st := by rfl
theorem tb_law_kinds (n : Nat) (as : List (Option PyData)) (st : Pl) : tb (n + 1) "_law_kinds" as st = runI 0 (tb n) I_law_kinds as st := by rfl
theorem tb_law_word (n : Nat) (as : List (Option PyData)) (st : Pl) : tb (n + 1) "_law_word" as st = runI 4 (tb n) I_law_word as st := by rfl
theorem tb_law_fresh (n : Nat) (as : List (Option PyData)) (st : Pl) : tb (n + 1) "_law_fresh" as st = runI 2 (tb n) I_law_fresh as st := by rfl
theorem tb_law_literal (n : Nat) (as : List (Option PyData)) (st : Pl) : tb (n + 1) "_law_literal" as st = runI 1 (tb n) I_law_literal as st := by rfl
theorem tb_law_kind (n : Nat) (as : List (Option PyData)) (st : Pl) : tb (n + 1) "_law_kind" as st = runI 1 (tb n) I_law_kind as st := by rfl
theorem tb_law_is_int (n : Nat) (as : List (Option PyData)) (st : Pl) : tb (n + 1) "_law_is_int" as st = runI 1 (tb n) I_law_is_int as st := by rfl
theorem tb_law_same (n : Nat) (as : List (Option PyData)) (st : Pl) : tb (n + 1) "_law_same" as st = runI 2 (tb n) I_law_same as st := by rfl
theorem tb_law_grown (n : Nat) (as : List (Option PyData)) (st : Pl) : tb (n + 1) "_law_grown" as st = runI 3 (tb n) I_law_grown as st := by rfl
theorem tb_law_args_grown (n : Nat) (as : List (Option PyData)) (st : Pl) : tb (n + 1) "_law_args_grown" as st = runI 3 (tb n) I_law_args_grown as st := by rfl
theorem tb_law_plain_rows (n : Nat) (as : List (Option PyData)) (st : Pl) : tb (n + 1) "_law_plain_rows" as st = runI 5 (tb n) I_law_plain_rows as st := by rfl
theorem tb_law_call_rows (n : Nat) (as : List (Option PyData)) (st : Pl) : tb (n + 1) "_law_call_rows" as st = runI 5 (tb n) I_law_call_rows as st := by rfl
end K4

set_option Elab.async false
set_option linter.all false
set_option maxRecDepth 100000
set_option maxHeartbeats 4000000
namespace K4
open PySem Ip L2 Cm
/-! What the rows are, and what is read, set and lent in them. -/
def ND (d : D) : Prop := ∃ s : Str, d = .str s ∧ s.length ≤ 6
inductive Tr : Nat → D → List D → List D → Prop
  | lit (n : Nat) (d : D) : Tr n (.tuple [.str "lit", d]) [.tuple [.str "lit", d]] []
  | name (n : Nat) (d : D) (h : ND d) : Tr n (.tuple [.str "name", d]) [.tuple [.str "name", d]] [d]
  | op (n : Nat) (o : String) (a b : D) (la ra lb rb : List D) (h : o ∈ ["add", "sub", "less", "same"]) (ha : Tr n a la ra) (hb : Tr n b lb rb) : Tr (n + 1) (.tuple [.str o, a, b]) (la ++ lb) (ra ++ rb)
theorem Tr.len {n : Nat} {e : D} {l r : List D} (h : Tr n e l r) : l.length ≤ 2 ^ n ∧ r.length ≤ l.length := by
  induction h with
  | lit n d => exact ⟨Nat.one_le_two_pow, by simp⟩
  | name n d h => exact ⟨Nat.one_le_two_pow, by simp⟩
  | op n o a b la ra lb rb h ha hb iha ihb =>
    rw [List.length_append, List.length_append, Nat.pow_succ]
    omega
theorem Tr.nd {n : Nat} {e : D} {l r : List D} (h : Tr n e l r) : ∀ x ∈ r, ND x := by
  induction h with
  | lit n d => exact fun x hx => by cases hx
  | name n d h => exact fun x hx => by rw [List.mem_singleton.mp hx]; exact h
  | op n o a b la ra lb rb h ha hb iha ihb =>
    intro x hx
    rcases List.mem_append.mp hx with hx | hx
    · exact iha x hx
    · exact ihb x hx
theorem Tr.up {n : Nat} {e : D} {l r : List D} (h : Tr n e l r) : Tr (n + 1) e l r := by
  induction h with
  | lit n d => exact .lit _ _
  | name n d h => exact .name _ _ h
  | op n o a b la ra lb rb h ha hb iha ihb => exact .op _ _ _ _ _ _ _ _ h iha ihb
def LeavesOk (cl : Cl) (n : Nat) : Prop := ∀ (e : D) (l r : List D) (st : Pl), Tr n e l r → cl "leaves" [some e] st = some (.list l, st)
theorem leaves_zero (cl : Cl) (e : D) (l r : List D) (st : Pl) (h : Tr 0 e l r) : runI 1 cl I_leaves [some e] st = some (.list l, st) := by
  have m1 : (1 : Nat) ≤ most := by decide
  have m2 : (2 : Nat) ≤ most := by decide
  cases h with
  | lit d => simp [runI, runF, I_leaves, slOf, cmpD, inD, flatD, memD, ixD, Cst.d, m1, m2, atI, ixN]
  | name d h => simp [runI, runF, I_leaves, slOf, cmpD, inD, flatD, memD, ixD, Cst.d, m1, m2, atI, ixN]
theorem leaves_succ {cl : Cl} {n : Nat} (hn : n ≤ 3) (hl : LeavesOk cl n) (e : D) (l r : List D) (st : Pl) (h : Tr (n + 1) e l r) : runI 1 cl I_leaves [some e] st = some (.list l, st) := by
  have m1 : (1 : Nat) ≤ most := by decide
  have m2 : (2 : Nat) ≤ most := by decide
  have h3 : 2 ^ n ≤ 8 := Nat.pow_le_pow_right (by decide) hn
  cases h with
  | lit d => simp [runI, runF, I_leaves, slOf, cmpD, inD, flatD, memD, ixD, Cst.d, m1, m2, atI, ixN]
  | name d h => simp [runI, runF, I_leaves, slOf, cmpD, inD, flatD, memD, ixD, Cst.d, m1, m2, atI, ixN]
  | op n o a b la ra lb rb h ha hb =>
    have ea := hl _ _ _ st ha
    have eb := hl _ _ _ st hb
    have la1 := ha.len.1
    have lb1 := hb.len.1
    have hs : la.length + lb.length ≤ most := by
      show _ ≤ 100000
      omega
    have hn1 : ¬ (Str.ofString "lit" = Str.ofString o) ∧ ¬ (Str.ofString "name" = Str.ofString o) := by
      simp only [List.mem_cons, List.not_mem_nil, or_false] at h
      rcases h with rfl | rfl | rfl | rfl <;> simp
    simp only [ofString_inj] at hn1
    simp [runI, runF, I_leaves, slOf, cmpD, inD, flatD, memD, ixD, binD, Cst.d, m1, m2, atI, ixN, ea, eb, hs, hn1.1, hn1.2]
/-- the second part of what has this tag -/
def gTag (t : String) : D → Option D
  | .tuple (.str s :: d :: _) => if s = Str.ofString t then some d else none
  | _ => none
def Tagged (d : D) : Prop := ∃ (s : String) (x : D), d = .tuple [.str s, x]
theorem lc_tag (cl : Cl) (t : String) (j : Nat) (env : List Sl) (hj : j < env.length) (st : Pl) (l : List D) (hl : ∀ x ∈ l, Tagged x) :
    lcG (lb cl j (.cons (.cmp .eq (.ix (.var j) (.cst (.int 0))) (.cst (.str t))) .nil) (.ix (.var j) (.cst (.int 1))) env) l st = some (l.filterMap (gTag t), st) := by
  refine lcG_pure fun d hd => ?_
  obtain ⟨s, x, rfl⟩ := hl d hd
  by_cases h : s = t
  · subst h
    simp [lb_eq, cmpD, eqD, ixD, atI, ixN, Cst.d, hj, gTag]
  · simp [lb_eq, cmpD, eqD, ixD, atI, ixN, Cst.d, hj, gTag, h]
theorem Tr.tagged {n : Nat} {e : D} {l r : List D} (h : Tr n e l r) : (∀ x ∈ l, Tagged x) ∧ l.filterMap (gTag "name") = r := by
  induction h with
  | lit n d => exact ⟨fun x hx => ⟨_, _, List.mem_singleton.mp hx⟩, by simp [gTag]⟩
  | name n d h => exact ⟨fun x hx => ⟨_, _, List.mem_singleton.mp hx⟩, by simp [gTag]⟩
  | op n o a b la ra lb rb h ha hb iha ihb =>
    refine ⟨fun x hx => ?_, by rw [List.filterMap_append, iha.2, ihb.2]⟩
    rcases List.mem_append.mp hx with hx | hx
    · exact iha.1 x hx
    · exact ihb.1 x hx
/-- a row's expressions, and what they read -/
inductive Exs : List D → List D → Prop
  | nil : Exs [] []
  | cons {e : D} {l r es rs : List D} (h : Tr 2 e l r) (t : Exs es rs) : Exs (e :: es) (r ++ rs)
theorem Exs.app {a b c d : List D} (h : Exs a b) (h2 : Exs c d) : Exs (a ++ c) (b ++ d) := by
  induction h with
  | nil => exact h2
  | cons h t ih =>
    rw [List.cons_append, List.append_assoc]
    exact .cons h ih
theorem Exs.one {e : D} {l r : List D} (h : Tr 2 e l r) : Exs [e] r := by
  have := Exs.cons h .nil
  rwa [List.append_nil] at this
theorem Exs.len {a b : List D} (h : Exs a b) : b.length ≤ 4 * a.length := by
  induction h with
  | nil => exact Nat.le_refl _
  | cons h t ih =>
    have := h.len
    rw [List.length_append, List.length_cons]
    omega
theorem Exs.nd {a b : List D} (h : Exs a b) : ∀ x ∈ b, ND x := by
  induction h with
  | nil => exact fun x hx => by cases hx
  | cons h t ih =>
    intro x hx
    rcases List.mem_append.mp hx with hx | hx
    · exact h.nd x hx
    · exact ih x hx
/-- arguments: the worth ones, the lent ones -/
inductive Ars : List D → List D → List D → Prop
  | nil : Ars [] [] []
  | worth {e : D} {as es ls : List D} (t : Ars as es ls) : Ars (.tuple [.str "worth", e] :: as) (e :: es) ls
  | lent {e : D} {as es ls : List D} (t : Ars as es ls) : Ars (.tuple [.str "lent", e] :: as) es (e :: ls)
theorem Ars.app {a b c d e f : List D} (h : Ars a b c) (h2 : Ars d e f) : Ars (a ++ d) (b ++ e) (c ++ f) := by
  induction h with
  | nil => exact h2
  | worth t ih => exact .worth ih
  | lent t ih => exact .lent ih
theorem Ars.tagged {a b c : List D} (h : Ars a b c) : (∀ x ∈ a, Tagged x) ∧ a.filterMap (gTag "worth") = b ∧ a.filterMap (gTag "lent") = c := by
  induction h with
  | nil => exact ⟨fun x hx => by (cases hx), rfl, rfl⟩
  | worth t ih =>
    refine ⟨fun x hx => ?_, by simp [gTag, ih.2.1], by simp [gTag, ih.2.2]⟩
    rcases List.mem_cons.mp hx with rfl | hx
    · exact ⟨_, _, rfl⟩
    · exact ih.1 x hx
  | lent t ih =>
    refine ⟨fun x hx => ?_, by simp [gTag, ih.2.1], by simp [gTag, ih.2.2]⟩
    rcases List.mem_cons.mp hx with rfl | hx
    · exact ⟨_, _, rfl⟩
    · exact ih.1 x hx
theorem Ars.len {a b c : List D} (h : Ars a b c) : b.length ≤ a.length ∧ c.length ≤ a.length := by
  induction h with
  | nil => exact ⟨Nat.le_refl _, Nat.le_refl _⟩
  | worth t ih => simp only [List.length_cons]; omega
  | lent t ih => simp only [List.length_cons]; omega
/-- a row's arguments -/
inductive RA : D → List D → Prop
  | call (x f : D) (as : List D) : RA (.tuple [.str "call", x, f, .tuple as]) as
  | start (x f : D) (as : List D) : RA (.tuple [.str "start", x, f, .tuple as]) as
  | not (t : String) (xs : List D) (h : t ≠ "call") (h2 : t ≠ "start") : RA (.tuple (.str t :: xs)) []
inductive RX : D → List D → Prop
  | let_ (x k e : D) : RX (.tuple [.str "let", x, k, e]) [e]
  | set_ (x e : D) : RX (.tuple [.str "set", x, e]) [e]
  | print (e : D) : RX (.tuple [.str "print", e]) [e]
  | ret (e : D) : RX (.tuple [.str "return", e]) [e]
  | iff (e a b : D) : RX (.tuple [.str "if", e, a, b]) [e]
  | dprint (g e : D) : RX (.tuple [.str "defer", g, .tuple [.str "print", e]]) [e]
  | dset (g x e : D) : RX (.tuple [.str "defer", g, .tuple [.str "set", x, e]]) [e]
  | rest (t : String) (xs as es ls : List D) (h : t ≠ "let" ∧ t ≠ "set" ∧ t ≠ "print" ∧ t ≠ "if" ∧ t ≠ "return" ∧ t ≠ "defer") (ha : RA (.tuple (.str t :: xs)) as) (hs : Ars as es ls) (hl : as.length ≤ 1000) : RX (.tuple (.str t :: xs)) es
inductive RN : D → List D → Prop
  | narrow (x k : D) (h : ND x) : RN (.tuple [.str "narrow", x, k]) [x]
  | rest (t : String) (xs es rs : List D) (h : t ≠ "narrow") (hx : RX (.tuple (.str t :: xs)) es) (he : Exs es rs) : RN (.tuple (.str t :: xs)) rs
inductive RS : D → List D → Prop
  | set_ (x e : D) : RS (.tuple [.str "set", x, e]) [x]
  | ask (x : D) : RS (.tuple [.str "ask", x]) [x]
  | call (x f as : D) (h : ND x) : RS (.tuple [.str "call", x, f, as]) [x]
  | callN (f as : D) : RS (.tuple [.str "call", .none, f, as]) []
  | wait (x t : D) (h : ND x) : RS (.tuple [.str "wait", x, t]) [x]
  | waitN (t : D) : RS (.tuple [.str "wait", .none, t]) []
  | dset (g x e : D) : RS (.tuple [.str "defer", g, .tuple [.str "set", x, e]]) [x]
  | dprint (g e : D) : RS (.tuple [.str "defer", g, .tuple [.str "print", e]]) []
  | rest (t : String) (xs : List D) (h : t ≠ "set" ∧ t ≠ "ask" ∧ t ≠ "call" ∧ t ≠ "wait" ∧ t ≠ "defer") : RS (.tuple (.str t :: xs)) []
def AOk (cl : Cl) : Prop := ∀ (row : D) (as : List D) (st : Pl), RA row as → cl "row_args" [some row] st = some (.tuple as, st)
def XOk (cl : Cl) : Prop := ∀ (row : D) (es : List D) (st : Pl), RX row es → cl "row_exprs" [some row] st = some (.tuple es, st)
def NOk (cl : Cl) : Prop := ∀ (row : D) (rs : List D) (st : Pl), RN row rs → cl "names_read" [some row] st = some (.tuple rs, st)
theorem atI0 (a : D) (r : List D) : atI (a :: r) 0 = some a := by
  unfold atI ixN
  rw [if_pos (by decide), if_pos (by rw [List.length_cons]; omega)]
  rfl
theorem args_run (cl : Cl) (row : D) (as : List D) (st : Pl) (h : RA row as) : runI 1 cl I_row_args [some row] st = some (.tuple as, st) := by
  have m1 : (2 : Nat) ≤ most := by decide
  cases h with
  | call x f as => simp [runI, runF, I_row_args, slOf, cmpD, inD, flatD, memD, ixD, Cst.d, m1, atI, ixN]
  | start x f as => simp [runI, runF, I_row_args, slOf, cmpD, inD, flatD, memD, ixD, Cst.d, m1, atI, ixN]
  | not t xs h h2 => simp [runI, runF, I_row_args, slOf, cmpD, inD, flatD, memD, ixD, Cst.d, m1, atI0, Ne.symm h, Ne.symm h2]
theorem exprs_run {cl : Cl} (ha : AOk cl) (row : D) (es : List D) (st : Pl) (h : RX row es) : runI 1 cl I_row_exprs [some row] st = some (.tuple es, st) := by
  have m1 : (1 : Nat) ≤ most := by decide
  have m3 : (3 : Nat) ≤ most := by decide
  cases h with
  | rest t xs as es ls h hx hs hl =>
    have e := ha _ _ st hx
    obtain ⟨h1, h2, h3, h4, h5, h6⟩ := h
    have e2 := lc_tag cl "worth" 1 [.im (.tuple (.str t :: xs)), .no] (Nat.lt_succ_self 1) st as hs.tagged.1
    rw [hs.tagged.2.1] at e2
    have al : as.length ≤ most := Nat.le_trans hl (by decide)
    simp [runI, runF, I_row_exprs, slOf, cmpD, eqD, inD, flatD, memD, ixD, itD, biD, Cst.d, m1, m3, atI0, h1, h2, Ne.symm h3, Ne.symm h4, Ne.symm h5, h6, e, al, e2]
  | _ => simp [runI, runF, I_row_exprs, slOf, cmpD, eqD, inD, flatD, memD, ixD, Cst.d, m1, m3, atI, ixN]
theorem RX.es_len {row : D} {es : List D} (h : RX row es) : es.length ≤ 1000 := by
  cases h with
  | rest t xs as es ls h hx hs hl => exact Nat.le_trans hs.len.1 hl
  | _ => exact (by decide : 1 ≤ 1000)
theorem read_run {cl : Cl} (hx : XOk cl) (hl : LeavesOk cl 2) (row : D) (rs : List D) (st : Pl) (h : RN row rs) : runI 1 cl I_names_read [some row] st = some (.tuple rs, st) := by
  have m1 : (1 : Nat) ≤ most := by decide
  have m0 : (0 : Nat) ≤ most := by decide
  cases h with
  | narrow x k h => simp [runI, runF, I_names_read, slOf, cmpD, eqD, ixD, Cst.d, m1, atI, ixN]
  | rest t xs es rs h hX he =>
    have e1 := hx _ _ st hX
    have el := hX.es_len
    have loop : ∀ (es rs : List D), Exs es rs → ∀ (acc : List D) (y z : Sl), acc.length + rs.length ≤ most → ∃ y' z', forG (fb cl (.one 2) (.cons (.ext 1 (.lc 3 (.seq (.call "leaves" (.cons (.var 2) .nil))) (.cons (.cmp .eq (.ix (.var 3) (.cst (.int 0))) (.cst (.str "name"))) .nil) (.ix (.var 3) (.cst (.int 1))))) .nil))
        es [.im (.tuple (.str t :: xs)), .ow acc, y, z] st = some (.nx [.im (.tuple (.str t :: xs)), .ow (acc ++ rs), y', z'] st) := fun es rs h => by
      induction h with
      | nil =>
        intro acc y z _
        refine ⟨y, z, ?_⟩
        rw [List.append_nil]
        rfl
      | @cons e l r es rs h tl ih =>
        intro acc y z hb
        rw [List.length_append] at hb
        have e2 := hl _ _ _ st h
        have e3 := lc_tag cl "name" 3 [.im (.tuple (.str t :: xs)), .ow acc, .im e, z] (Nat.lt_succ_self 3) st l h.tagged.1
        rw [h.tagged.2] at e3
        have ll : l.length ≤ most := by
          have := h.len.1
          show _ ≤ 100000
          omega
        have hb1 : acc.length + r.length ≤ most := Nat.le_trans (by omega) hb
        obtain ⟨y', z', ih⟩ := ih (acc ++ r) (.im e) z (by rw [List.length_append]; omega)
        refine ⟨y', z', ?_⟩
        unfold forG
        rw [List.append_assoc] at ih
        simp [fb_eq, sgD, itD, e2, e3, ll, hb1]
        simpa [fb_eq] using ih
    obtain ⟨y', z', e4⟩ := loop es rs he [] .no .no (by
      have := he.len
      simp
      exact Nat.le_trans this (Nat.le_trans (Nat.mul_le_mul_left 4 el) (by decide)))
    simp [runI, runF, I_names_read, slOf, cmpD, eqD, ixD, itD, biD, Cst.d, m1, m0, atI0, h, e1, e4, frzE, frzS]
end K4

set_option Elab.async false
set_option linter.all false
set_option maxRecDepth 100000
set_option maxHeartbeats 4000000
namespace K4
open PySem Ip L2 Cm
theorem atI1 (a b : D) (r : List D) : atI (a :: b :: r) 1 = some b := by
  unfold atI ixN
  rw [if_pos (by decide), if_pos (by rw [List.length_cons, List.length_cons]; omega)]
  rfl
def SOk (cl : Cl) : Prop := ∀ (row : D) (ss : List D) (st : Pl), RS row ss → cl "names_set" [some row] st = some (.tuple ss, st)
def LOk (cl : Cl) : Prop := ∀ (row : D) (as es ls : List D) (st : Pl), RA row as → Ars as es ls → as.length ≤ 1000 → cl "names_lent" [some row] st = some (.tuple ls, st)
theorem set_run (cl : Cl) (row : D) (ss : List D) (st : Pl) (h : RS row ss) : runI 1 cl I_names_set [some row] st = some (.tuple ss, st) := by
  have m0 : (0 : Nat) ≤ most := by decide
  have m1 : (1 : Nat) ≤ most := by decide
  have m2 : (2 : Nat) ≤ most := by decide
  cases h with
  | rest t xs h =>
    obtain ⟨h1, h2, h3, h4, h5⟩ := h
    simp [runI, runF, I_names_set, slOf, cmpD, eqD, inD, flatD, memD, ixD, Cst.d, m0, m1, m2, atI0, Ne.symm h1, Ne.symm h2, Ne.symm h3, Ne.symm h4, h5]
  | call x f as h =>
    obtain ⟨s, rfl, _⟩ := h
    simp [runI, runF, I_names_set, slOf, cmpD, eqD, inD, flatD, memD, ixD, Cst.d, m0, m1, m2, atI, ixN]
  | wait x f h =>
    obtain ⟨s, rfl, _⟩ := h
    simp [runI, runF, I_names_set, slOf, cmpD, eqD, inD, flatD, memD, ixD, Cst.d, m0, m1, m2, atI, ixN]
  | _ => simp [runI, runF, I_names_set, slOf, cmpD, eqD, inD, flatD, memD, ixD, Cst.d, m0, m1, m2, atI, ixN]
theorem lent_run {cl : Cl} (ha : AOk cl) (row : D) (as es ls : List D) (st : Pl) (h : RA row as) (h2 : Ars as es ls) (hl : as.length ≤ 1000) : runI 1 cl I_names_lent [some row] st = some (.tuple ls, st) := by
  have e := ha _ _ st h
  have e2 := lc_tag cl "lent" 1 [.im row, .no] (Nat.lt_succ_self 1) st as h2.tagged.1
  rw [h2.tagged.2.2] at e2
  have al : as.length ≤ most := Nat.le_trans hl (by decide)
  simp [runI, runF, I_names_lent, slOf, itD, biD, Cst.d, e, al, e2]
/-! ### the draws -/
structure Names (ns : List D) : Prop where
  nd : ∀ x ∈ ns, ND x
  two : 2 ≤ ns.length
  most_ : ns.length ≤ 100
def GrownOk (cl : Cl) (n : Nat) : Prop := ∀ (ns : List D) (st : Pl), Pok st → Names ns → ∃ e l r st', cl "_law_grown" [none, some (.list ns), some (.int ((n : Int) + 1))] st = some (.list [e, .list r], st') ∧ Tr n e l r ∧ Pok st'
theorem pick {cl : Cl} (hd : DrawOk cl) {ns : List D} (hn : Names ns) (st : Pl) (h : Pok st) : ∃ r x st', cl "_law_draw" [none, some (.int ns.length)] st = some (.int r, st') ∧ atI ns r = some x ∧ ND x ∧ Pok st' := by
  have h2 := hn.two
  have h3 := hn.most_
  obtain ⟨r, st1, e1, r0, r1, h1⟩ := hd ns.length st h (by omega) (by omega)
  exact ⟨r, _, st1, e1, atI_of r0 r1, hn.nd _ (List.getElem_mem _), h1⟩
theorem grown_leaf {cl : Cl} (n : Nat) (hd : DrawOk cl) (hl : LiteralOk cl) (ns : List D) (st : Pl) (h : Pok st) (hn : Names ns) (r : Int) (st1 : Pl) (h1 : Pok st1) (e1 : cl "_law_draw" [none, some (.int 4)] st = some (.int r, st1))
    (hr : n = 0 ∨ (r ≠ 1 ∧ r ≠ 2)) :
    ∃ e l rs st', runI 3 cl I_law_grown [none, some (.list ns), some (.int ((n : Int) + 1))] st = some (.list [e, .list rs], st') ∧ Tr n e l rs ∧ Pok st' := by
  have m0 : (0 : Nat) ≤ most := by decide
  have m1 : (1 : Nat) ≤ most := by decide
  have m2 : (2 : Nat) ≤ most := by decide
  by_cases h3 : r = 3
  · subst h3
    obtain ⟨d, st2, e2, _, h2⟩ := hl st1 h1
    refine ⟨_, _, _, st2, ?_, .lit n d, h2⟩
    by_cases hn1 : 0 < n
    · simp [runI, runF, I_law_grown, slOf, cmpD, eqD, inD, flatD, memD, Cst.d, m0, m1, m2, e1, e2, hn1, show (1 : Int) < (n : Int) + 1 by omega]
    · simp [runI, runF, I_law_grown, slOf, cmpD, eqD, inD, flatD, memD, Cst.d, m0, m1, m2, e1, e2, hn1, show ¬ (1 : Int) < (n : Int) + 1 by omega]
  · obtain ⟨k, x, st2, e2, e3, hx, h2⟩ := pick hd hn st1 h1
    refine ⟨_, _, _, st2, ?_, .name n x hx, h2⟩
    rcases hr with rfl | ⟨r1, r2⟩
    · simp [runI, runF, I_law_grown, slOf, cmpD, eqD, inD, flatD, memD, biD, ixD, Cst.d, m0, m1, m2, e1, e2, e3, h3]
    · by_cases hn1 : (1 : Int) < (n : Int) + 1
      · simp [runI, runF, I_law_grown, slOf, cmpD, eqD, inD, flatD, memD, biD, ixD, Cst.d, m0, m1, m2, e1, e2, e3, h3, hn1, Ne.symm r1, Ne.symm r2]

      · simp [runI, runF, I_law_grown, slOf, cmpD, eqD, inD, flatD, memD, biD, ixD, Cst.d, m0, m1, m2, e1, e2, e3, h3, hn1]
end K4

set_option Elab.async false
set_option linter.all false
set_option maxRecDepth 100000
set_option maxHeartbeats 4000000
namespace K4
open PySem Ip L2 Cm
def ops : List D := [.str "add", .str "sub", .str "less", .str "same"]
theorem ops_mem {x : D} (h : x ∈ ops) : ∃ o : String, x = .str o ∧ o ∈ ["add", "sub", "less", "same"] := by
  simp only [ops, List.mem_cons, List.not_mem_nil, or_false] at h
  rcases h with rfl | rfl | rfl | rfl
  · exact ⟨"add", rfl, by simp⟩
  · exact ⟨"sub", rfl, by simp⟩
  · exact ⟨"less", rfl, by simp⟩
  · exact ⟨"same", rfl, by simp⟩
theorem grown_zero {cl : Cl} (hd : DrawOk cl) (hl : LiteralOk cl) (ns : List D) (st : Pl) (h : Pok st) (hn : Names ns) :
    ∃ e l r st', runI 3 cl I_law_grown [none, some (.list ns), some (.int ((0 : Nat) + 1))] st = some (.list [e, .list r], st') ∧ Tr 0 e l r ∧ Pok st' := by
  obtain ⟨r, st1, e1, r0, r1, h1⟩ := hd 4 st h (by decide) (by decide)
  exact grown_leaf 0 hd hl ns st h hn r st1 h1 e1 (.inl rfl)
theorem grown_succ {cl : Cl} {n : Nat} (h3 : n ≤ 3) (hd : DrawOk cl) (hl : LiteralOk cl) (hg : GrownOk cl n) (ns : List D) (st : Pl) (h : Pok st) (hn : Names ns) :
    ∃ e l r st', runI 3 cl I_law_grown [none, some (.list ns), some (.int (((n + 1 : Nat) : Int) + 1))] st = some (.list [e, .list r], st') ∧ Tr (n + 1) e l r ∧ Pok st' := by
  obtain ⟨r, st1, e1, r0, r1, h1⟩ := hd 4 st h (by decide) (by decide)
  by_cases hr : r = 1 ∨ r = 2
  · obtain ⟨s, st2, e2, s0, s1, h2⟩ := hd 4 st1 h1 (by decide) (by decide)
    have hat := atI_of (xs := ops) s0 (by simpa [ops] using s1)
    generalize hx : ops[s.toNat]'_ = x at hat
    obtain ⟨o, rfl, ho⟩ := ops_mem (x := x) (by rw [← hx]; exact List.getElem_mem _)
    obtain ⟨ea, la, ra, st3, e3, ta, h3'⟩ := hg ns st2 h2 hn
    obtain ⟨eb, lb, rb, st4, e4, tb, h4⟩ := hg ns st3 h3' hn
    refine ⟨_, _, _, st4, ?_, .op n o ea eb la ra lb rb ho ta tb, h4⟩
    have m2 : (2 : Nat) ≤ most := by decide
    have m3 : (3 : Nat) ≤ most := by decide
    have m4 : (4 : Nat) ≤ most := by decide
    have hb : ra.length + rb.length ≤ most := by
      have h5 : 2 ^ n ≤ 2 ^ 3 := Nat.pow_le_pow_right (by decide) h3
      have h6 := ta.len
      have h7 := tb.len
      show _ ≤ 100000
      omega
    have hn2 : (n : Int) + 1 + 1 - 1 = n + 1 := by omega
    have hn3 : (1 : Int) < (n : Int) + 1 + 1 := by omega
    unfold ops at hat
    have hr2 : (1 = r ∨ 2 = r) := by
      rcases hr with rfl | rfl
      · exact .inl rfl
      · exact .inr rfl
    have hr3 : (decide (1 = r) || decide (2 = r)) = true := by simpa using hr2
    simp [runI, runF, I_law_grown, slOf, cmpD, eqD, inD, flatD, memD, binD, ixD, Cst.d, m2, m3, m4, e1, e2, e3, e4, hat, hb, hn2, hn3, hr3, atI0, atI1]
  · exact grown_leaf (n + 1) hd hl ns st h hn r st1 h1 e1 (.inr ⟨fun e => hr (.inl e), fun e => hr (.inr e)⟩)
/-! ### arguments -/
def Forms (fs : List D) : Prop := (∀ x ∈ fs, x = .str "lent" ∨ x = .str "worth") ∧ fs.length ≤ 100
def ArgsOk (cl : Cl) : Prop := ∀ (ns fs : List D) (st : Pl), Pok st → Names ns → Forms fs → ∃ as es rs ls st', cl "_law_args_grown" [none, some (.list ns), some (.list fs)] st = some (.list [.tuple as, .list rs, .list ls], st') ∧ Ars as es ls ∧ Exs es rs ∧ (∀ x ∈ ls, ND x) ∧ as.length ≤ 100 ∧ Pok st'
theorem args_grown {cl : Cl} (hd : DrawOk cl) (hg : GrownOk cl 2) (ns fs : List D) (st : Pl) (h : Pok st) (hn : Names ns) (hf : Forms fs) :
    ∃ as es rs ls st', runI 3 cl I_law_args_grown [none, some (.list ns), some (.list fs)] st = some (.list [.tuple as, .list rs, .list ls], st') ∧ Ars as es ls ∧ Exs es rs ∧ (∀ x ∈ ls, ND x) ∧ as.length ≤ 100 ∧ Pok st' := by
  have m0 : (0 : Nat) ≤ most := by decide
  have m1 : (1 : Nat) ≤ most := by decide
  have m2 : (2 : Nat) ≤ most := by decide
  have m3 : (3 : Nat) ≤ most := by decide
  have m101 : ∀ {k : Nat}, k ≤ 1000 → k ≤ most := fun h => Nat.le_trans h (by decide)
  obtain ⟨env', st', e, as, rs, ls, es, x, y, z, rfl, h1, h2, h3, h4, h5⟩ := forG_nx (f := fb cl (.one 6) (.cons (.iff (.cmp .eq (.var 6) (.cst (.str "lent"))) (.cons (.set 7 (.ix (.var 1) (.call "_law_draw" (.pool 0 (.cons (.bi .len (.cons (.var 1) .nil)) .nil)))))
  (.cons (.set 3 (.bin .add (.var 3) (.tup (.cons (.tup (.cons (.cst (.str "lent")) (.cons (.var 7) .nil))) .nil))))
  (.cons (.app 5 (.var 7))
  .nil))) (.cons (.set 8 (.call "_law_grown" (.pool 0 (.cons (.var 1) (.cons (.cst (.int 3)) .nil)))))
  (.cons (.set 3 (.bin .add (.var 3) (.tup (.cons (.tup (.cons (.cst (.str "worth")) (.cons (.ix (.var 8) (.cst (.int 0))) .nil))) .nil))))
  (.cons (.set 4 (.bin .add (.var 4) (.ix (.var 8) (.cst (.int 1)))))
  .nil))))
  .nil)) (fun i env st => ∃ as rs ls es x y z, env = [.pl, .im (.list ns), .im (.list fs), .im (.tuple as), .im (.list rs), .ow ls, x, y, z] ∧ Ars as es ls ∧ Exs es rs ∧ (∀ x ∈ ls, ND x) ∧ as.length = i ∧ Pok st)
    fs [.pl, .im (.list ns), .im (.list fs), .im (.tuple []), .im (.list []), .ow [], .no, .no, .no] st ⟨[], [], [], [], _, _, _, rfl, .nil, .nil, (fun x hx => by cases hx), rfl, h⟩
    (fun i d env st hi ⟨as, rs, ls, es, x, y, z, e, h1, h2, h3, h4, h5⟩ => by
      subst e
      have hlen := hf.2
      have hi2 : i < fs.length := (List.getElem?_eq_some_iff.mp hi).1
      have hdm : d ∈ fs := List.mem_of_getElem? hi
      have ha1 := h1.len
      have hr1 := h2.len
      rcases hf.1 d hdm with rfl | rfl
      · obtain ⟨k, w, st1, e1, e2, hw, h6⟩ := pick hd hn st h5
        refine ⟨_, st1, ?_, as ++ [.tuple [.str "lent", w]], rs, ls ++ [w], es, .im (.str "lent"), .im w, z, rfl, ?_, h2, ?_, by simp [h4], h6⟩
        · have q1 : as.length + 1 ≤ most := m101 (by omega)
          have q2 : ls.length < most := Nat.lt_of_lt_of_le (by omega : ls.length < 1000) (by decide)
          simp [fb_eq, sgD, cmpD, eqD, binD, ixD, biD, Cst.d, e1, e2, m1, m2, q1, q2]
        · have := h1.app (.lent (e := w) .nil)
          rwa [List.append_nil] at this
        · intro x hx
          rcases List.mem_append.mp hx with hx | hx
          · exact h3 x hx
          · rw [List.mem_singleton.mp hx]
            exact hw
      · obtain ⟨e0, l0, r0, st1, e1, ht, h6⟩ := hg ns st h5 hn
        have e1' : cl "_law_grown" [none, some (.list ns), some (.int 3)] st = some (.list [e0, .list r0], st1) := e1
        refine ⟨_, st1, ?_, as ++ [.tuple [.str "worth", e0]], rs ++ r0, ls, es ++ [e0], .im (.str "worth"), y, .im (.list [e0, .list r0]), rfl, ?_, h2.app (.one ht), h3, by simp [h4], h6⟩
        · have q1 : as.length + 1 ≤ most := m101 (by omega)
          have q2 : rs.length + r0.length ≤ most := m101 (by have := ht.len; omega)
          simp [fb_eq, sgD, cmpD, eqD, binD, ixD, biD, Cst.d, e1', m1, m2, q1, q2, atI0, atI1]
        · have := h1.app (.worth (e := e0) .nil)
          rwa [List.append_nil] at this)
  refine ⟨as, es, rs, ls, st', ?_, h1, h2, h3, by rw [h4]; exact hf.2, h5⟩
  simp [runI, runF, I_law_args_grown, slOf, itD, Cst.d, m0, m3, e, frzE, frzS]
end K4

set_option Elab.async false
set_option linter.all false
set_option maxRecDepth 100000
set_option maxHeartbeats 4000000
namespace K4
open PySem Ip L2 Cm
def NDs (l : List D) : Prop := ∀ x ∈ l, ND x
theorem NDs.nil : NDs [] := fun x hx => by cases hx
theorem NDs.one {x : D} (h : ND x) : NDs [x] := fun y hy => by rw [List.mem_singleton.mp hy]; exact h
def Ent (x : D) : Prop := ∃ row rs ss ls as es, x = .list [row, .list rs, .list ss, .list ls] ∧ RN row rs ∧ RS row ss ∧ RA row as ∧ Ars as es ls ∧ as.length ≤ 1000 ∧ NDs rs ∧ NDs ss ∧ NDs ls
/-- one expression in it, no arguments -/
theorem ent_one {t : String} {xs : List D} {e : D} {l r ss : List D} (h : Tr 2 e l r) (h1 : RX (.tuple (.str t :: xs)) [e]) (h2 : RS (.tuple (.str t :: xs)) ss) (hs : NDs ss) (n1 : t ≠ "narrow") (n2 : t ≠ "call") (n3 : t ≠ "start") :
    Ent (.list [.tuple (.str t :: xs), .list r, .list ss, .list []]) :=
  ⟨_, _, _, _, [], [], rfl, .rest t xs [e] r n1 h1 (.one h), h2, .not t xs n2 n3, .nil, by decide, h.nd, hs, .nil⟩
/-- none in it -/
theorem ent_none {t : String} {xs : List D} {ss : List D} (h2 : RS (.tuple (.str t :: xs)) ss) (hs : NDs ss) (n1 : t ≠ "narrow") (n2 : t ≠ "call") (n3 : t ≠ "start") (h : t ≠ "let" ∧ t ≠ "set" ∧ t ≠ "print" ∧ t ≠ "if" ∧ t ≠ "return" ∧ t ≠ "defer") :
    Ent (.list [.tuple (.str t :: xs), .list [], .list ss, .list []]) :=
  ⟨_, _, _, _, [], [], rfl, .rest t xs [] [] n1 (.rest t xs [] [] [] h (.not t xs n2 n3) .nil (by decide)) .nil, h2, .not t xs n2 n3, .nil, by decide, .nil, hs, .nil⟩
def PlainOk (cl : Cl) : Prop := ∀ (ns : List D) (x y o : D) (st : Pl), Pok st → Names ns → ND x → ND y → ND o → ∃ ds st', cl "_law_plain_rows" [none, some (.list ns), some x, some y, some o] st = some (.list ds, st') ∧ (∀ x ∈ ds, Ent x) ∧ ds.length = 14 ∧ Pok st'
theorem plain_run {cl : Cl} (hd : DrawOk cl) (hk : KindsOk cl) (hki : KindOk cl) (hg : GrownOk cl 2) (hg0 : GrownOk cl 0) (ns : List D) (x y o : D) (st : Pl) (h : Pok st) (hn : Names ns) (hx : ND x) (hy : ND y) (ho : ND o) :
    ∃ ds st', runI 5 cl I_law_plain_rows [none, some (.list ns), some x, some y, some o] st = some (.list ds, st') ∧ (∀ x ∈ ds, Ent x) ∧ ds.length = 14 ∧ Pok st' := by
  have m0 : (0 : Nat) ≤ most := by decide
  have m1 : (1 : Nat) ≤ most := by decide
  have m2 : (2 : Nat) ≤ most := by decide
  have m3 : (3 : Nat) ≤ most := by decide
  have m4 : (4 : Nat) ≤ most := by decide
  have m5 : (5 : Nat) ≤ most := by decide
  have lt : ∀ {k : Nat}, k < 100 → k < most := fun h => Nat.lt_of_lt_of_le h (by decide)
  obtain ⟨a, b, ns', rfl⟩ : ∃ a b r, ns = a :: b :: r := by
    have := hn.two
    match ns, this with
    | a :: b :: r, _ => exact ⟨a, b, r, rfl⟩
  have ha := hn.nd a (by simp)
  have hb := hn.nd b (by simp)
  obtain ⟨sa, rfl, la⟩ := ha
  have hb2 := hb
  obtain ⟨sb, rfl, lb⟩ := hb
  have la2 : sa.length ≤ most := Nat.le_trans la (by decide)
  obtain ⟨r1, st1, e1, r10, r11, h1⟩ := hd 7 st h (by decide) (by decide)
  obtain ⟨k0, ek0⟩ : ∃ k0, atI kindsD r1 = some k0 := ⟨_, atI_of (xs := kindsD) r10 (by simpa [kindsD] using r11)⟩
  obtain ⟨r2, st2, e2, r20, r21, h2⟩ := hd 3 st1 h1 (by decide) (by decide)
  obtain ⟨g0, eg0⟩ : ∃ g0, atI [PyData.str "done", .str "fail", .str "always"] r2 = some g0 := ⟨_, atI_of (xs := [PyData.str "done", .str "fail", .str "always"]) r20 (by simpa using r21)⟩
  obtain ⟨r3, st3, e3, r30, r31, h3⟩ := hd 3 st2 h2 (by decide) (by decide)
  obtain ⟨x4, l4, q4, st4, e4, t4, h4⟩ := hg _ st3 h3 hn
  obtain ⟨k5, st5, e5, _, h5⟩ := hki st4 h4
  obtain ⟨x6, l6, q6, st6, e6, t6, h6⟩ := hg _ st5 h5 hn
  obtain ⟨x7, l7, q7, st7, e7, t7, h7⟩ := hg _ st6 h6 hn
  obtain ⟨x8, l8, q8, st8, e8, t8, h8⟩ := hg _ st7 h7 hn
  obtain ⟨x9, l9, q9, st9, e9, t9, h9⟩ := hg _ st8 h8 hn
  obtain ⟨x10, l10, q10, st10, e10, t10, h10⟩ := hg0 _ st9 h9 hn
  have f4 : cl "_law_grown" [none, some (.list _), some (.int 3)] st3 = _ := e4
  have f6 : cl "_law_grown" [none, some (.list _), some (.int 3)] st5 = _ := e6
  have f7 : cl "_law_grown" [none, some (.list _), some (.int 3)] st6 = _ := e7
  have f8 : cl "_law_grown" [none, some (.list _), some (.int 3)] st7 = _ := e8
  have f9 : cl "_law_grown" [none, some (.list _), some (.int 3)] st8 = _ := e9
  have f10 : cl "_law_grown" [none, some (.list _), some (.int 1)] st9 = _ := e10
  have l1 := lt (show 1 < 100 by decide)
  have l2 := lt (show 2 < 100 by decide)
  have l3 := lt (show 3 < 100 by decide)
  have l4' := lt (show 4 < 100 by decide)
  have l5 := lt (show 5 < 100 by decide)
  have l6' := lt (show 6 < 100 by decide)
  have l7' := lt (show 7 < 100 by decide)
  have l8' := lt (show 8 < 100 by decide)
  have l9' := lt (show 9 < 100 by decide)
  have l10' := lt (show 10 < 100 by decide)
  have l11' := lt (show 11 < 100 by decide)
  have l12' := lt (show 12 < 100 by decide)
  have l13' := lt (show 13 < 100 by decide)
  refine ⟨_, st10, ?_, List.forall_mem_cons.mpr ⟨ent_one (t := "print") (xs := [.tuple [.str "sub", .tuple [.str "name", .str sa], .tuple [.str "add", .tuple [.str "name", .str sb], .tuple [.str "name", .str sb]]]]) (.op 1 "sub" _ _ _ _ _ _ (by simp) (.name 1 _ ⟨sa, rfl, la⟩) (.op 0 "add" _ _ _ _ _ _ (by simp) (.name 0 _ hb2) (.name 0 _ hb2))) (.print _) (.rest _ _ (by decide)) .nil (by decide) (by decide) (by decide),
      List.forall_mem_cons.mpr ⟨ent_one (t := "return") (xs := [.tuple [.str "same", .tuple [.str "lit", .str (cutS sa none (some 1))], .tuple [.str "name", x]]]) (.up (.op 0 "same" _ _ _ _ _ _ (by simp) (.lit 0 _) (.name 0 _ hx))) (.ret _) (.rest _ _ (by decide)) .nil (by decide) (by decide) (by decide),
      List.forall_mem_cons.mpr ⟨ent_none (t := "ask") (xs := [y]) (.ask y) (.one hy) (by decide) (by decide) (by decide) (by decide),
      List.forall_mem_cons.mpr ⟨ent_none (t := "wait") (xs := [x, o]) (.wait x o hx) (.one hx) (by decide) (by decide) (by decide) (by decide),
      List.forall_mem_cons.mpr ⟨ent_none (t := "wait") (xs := [.none, o]) (.waitN o) .nil (by decide) (by decide) (by decide) (by decide),
      List.forall_mem_cons.mpr ⟨⟨_, _, _, _, [], [], rfl, .narrow x k0 hx, .rest "narrow" _ (by decide), .not "narrow" _ (by decide) (by decide), .nil, by decide, .one hx, .nil, .nil⟩,
      List.forall_mem_cons.mpr ⟨ent_none (t := "loop") (xs := [.int (1 + r3), .tuple [.tuple [.str "set", y, .tuple [.str "name", x]], .tuple [.str "call", y, o, .tuple [.tuple [.str "lent", x], .tuple [.str "worth", .tuple [.str "name", y]]]]]]) (.rest _ _ (by decide)) .nil (by decide) (by decide) (by decide) (by decide),
      List.forall_mem_cons.mpr ⟨ent_one (t := "let") (xs := [o, k5, x4]) t4 (.let_ _ _ _) (.rest _ _ (by decide)) .nil (by decide) (by decide) (by decide),
      List.forall_mem_cons.mpr ⟨ent_one (t := "set") (xs := [x, x6]) t6 (.set_ _ _) (.set_ _ _) (.one hx) (by decide) (by decide) (by decide),
      List.forall_mem_cons.mpr ⟨ent_one (t := "print") (xs := [x7]) t7 (.print _) (.rest _ _ (by decide)) .nil (by decide) (by decide) (by decide),
      List.forall_mem_cons.mpr ⟨ent_one (t := "return") (xs := [x8]) t8 (.ret _) (.rest _ _ (by decide)) .nil (by decide) (by decide) (by decide),
      List.forall_mem_cons.mpr ⟨ent_one (t := "if") (xs := [x9, .tuple [.tuple [.str "set", y, .tuple [.str "name", x]], .tuple [.str "call", y, o, .tuple [.tuple [.str "lent", x], .tuple [.str "worth", .tuple [.str "name", y]]]]], .tuple (cutD [.tuple [.str "set", y, .tuple [.str "name", x]], .tuple [.str "call", y, o, .tuple [.tuple [.str "lent", x], .tuple [.str "worth", .tuple [.str "name", y]]]]] (some 1) none)]) t9 (.iff _ _ _) (.rest _ _ (by decide)) .nil (by decide) (by decide) (by decide),
      List.forall_mem_cons.mpr ⟨ent_one (t := "defer") (xs := [g0, .tuple [.str "print", x10]]) t10.up.up (.dprint _ _) (.dprint _ _) .nil (by decide) (by decide) (by decide),
      List.forall_mem_cons.mpr ⟨ent_one (t := "defer") (xs := [g0, .tuple [.str "set", y, x10]]) t10.up.up (.dset _ _ _) (.dset _ _ _) (.one hy) (by decide) (by decide) (by decide),
      List.forall_mem_nil _⟩⟩⟩⟩⟩⟩⟩⟩⟩⟩⟩⟩⟩⟩, rfl, h10⟩
  simp [runI, runF, I_law_plain_rows, slOf, binD, slD, ixD, Cst.d, m0, m1, m2, m3, m4, m5, hk st, e1, ek0, e2, eg0, e3, f4, e5, f6, f7, f8, f9, f10, la2, atI0, atI1, l1, l2, l3, l4', l5, l6', l7', l8', l9', l10', l11', l12', l13', frzE, frzS]
end K4

set_option Elab.async false
set_option linter.all false
set_option maxRecDepth 100000
set_option maxHeartbeats 4000000
namespace K4
open PySem Ip L2 Cm
theorem Names.flat {ns : List D} (h : ∀ x ∈ ns, ND x) : flats ns := by
  unfold flats
  rw [List.all_eq_true]
  intro x hx
  obtain ⟨s, rfl, _⟩ := h x hx
  rfl
/-- a row with arguments -/
theorem ent_args {t : String} {x f : D} {as es rs ss ls : List D} (h1 : RA (.tuple [.str t, x, f, .tuple as]) as) (h2 : Ars as es ls) (h3 : Exs es rs) (h4 : RS (.tuple [.str t, x, f, .tuple as]) ss) (hl : as.length ≤ 100) (hs : NDs ss) (hn : NDs ls)
    (n1 : t ≠ "narrow") (h : t ≠ "let" ∧ t ≠ "set" ∧ t ≠ "print" ∧ t ≠ "if" ∧ t ≠ "return" ∧ t ≠ "defer") : Ent (.list [.tuple [.str t, x, f, .tuple as], .list rs, .list ss, .list ls]) :=
  ⟨_, _, _, _, as, es, rfl, .rest t _ es rs n1 (.rest t _ as es ls h h1 h2 (by omega)) h3, h4, h1, h2, by omega, h3.nd, hs, hn⟩
def CallOk (cl : Cl) : Prop := ∀ (ns fs : List D) (x o : D) (st : Pl), Pok st → Names ns → Forms fs → ND x → ND o → ∃ ds st', cl "_law_call_rows" [none, some (.list ns), some x, some o, some (.list fs)] st = some (.list ds, st') ∧ (∀ x ∈ ds, Ent x) ∧ ds.length = 3 ∧ Pok st'
theorem call_run {cl : Cl} (hf : FreshOk cl) (ha : ArgsOk cl) (ns fs : List D) (x o : D) (st : Pl) (h : Pok st) (hn : Names ns) (hfs : Forms fs) (hx : ND x) (ho : ND o) :
    ∃ ds st', runI 5 cl I_law_call_rows [none, some (.list ns), some x, some o, some (.list fs)] st = some (.list ds, st') ∧ (∀ x ∈ ds, Ent x) ∧ ds.length = 3 ∧ Pok st' := by
  have m0 : (0 : Nat) ≤ most := by decide
  have m1 : (1 : Nat) ≤ most := by decide
  have m4 : (4 : Nat) ≤ most := by decide
  have l0 : (0 : Nat) < most := by decide
  have l1 : (1 : Nat) < most := by decide
  have l2 : (2 : Nat) < most := by decide
  have hnl : ns.length + 1 ≤ most := by
    have := hn.most_
    show _ ≤ 100000
    omega
  obtain ⟨w, st1, e1, _, h1⟩ := hf (ns ++ [o]) st h (Names.flat fun y hy => by
    rcases List.mem_append.mp hy with hy | hy
    · exact hn.nd y hy
    · rw [List.mem_singleton.mp hy]
      exact ho)
  obtain ⟨as, es, rs, ls, st2, e2, a1, a2, a3, a4, h2⟩ := ha ns fs st1 h1 hn hfs
  refine ⟨_, st2, ?_, List.forall_mem_cons.mpr ⟨ent_args (t := "call") (.call x o as) a1 a2 (.call x o _ hx) a4 (.one hx) a3 (by decide) (by decide), List.forall_mem_cons.mpr ⟨ent_args (t := "call") (.call .none o as) a1 a2 (.callN o _) a4 .nil a3 (by decide) (by decide),
    List.forall_mem_cons.mpr ⟨ent_args (t := "start") (.start (.str w) o as) a1 a2 (.rest _ _ (by decide)) a4 .nil a3 (by decide) (by decide), List.forall_mem_nil _⟩⟩⟩, rfl, h2⟩
  simp [runI, runF, I_law_call_rows, slOf, binD, itD, setMany, sgD, Cst.d, m0, m1, m4, l0, l1, l2, hnl, e1, e2, frzE, frzS]
/-! ### the table, as deep as need be -/
theorem mixed_tb (n : Nat) : MixedOk (tb (n + 1)) := fun c t lim st h0 h1 h2 h3 h4 => by rw [tb_law_mixed]; exact mixed_run _ c t lim st h0 h1 h2 h3 h4
theorem draw_tb (n : Nat) : DrawOk (tb (n + 2)) := fun lim st h h0 h1 => by rw [tb_law_draw]; exact draw_run (mixed_tb n) lim st h h0 h1
theorem kinds_tb (n : Nat) : KindsOk (tb (n + 1)) := fun st => by rw [tb_law_kinds]; exact kinds_run _ st
theorem word_tb (n : Nat) : WordOk (tb (n + 3)) := fun a b m st h a1 a2 b1 b2 m0 m1 => by rw [tb_law_word]; exact word_run (draw_tb n) a b m st h a1 a2 b1 b2 m0 m1
theorem fresh_tb (n : Nat) : FreshOk (tb (n + 4)) := fun xs st h hx => by rw [tb_law_fresh]; exact fresh_run (draw_tb _) (word_tb n) (kinds_tb _) xs st h hx
theorem literal_tb (n : Nat) : LiteralOk (tb (n + 4)) := fun st h => by rw [tb_law_literal]; exact literal_run (draw_tb _) (word_tb n) st h
theorem kind_tb (n : Nat) : KindOk (tb (n + 3)) := fun st h => by rw [tb_law_kind]; exact kind_run (draw_tb _) (kinds_tb _) st h
theorem is_int_tb (n : Nat) : IsIntOk (tb (n + 1)) := fun d st => by rw [tb_law_is_int]; exact is_int_run _ d st
theorem same_tb0 (n : Nat) : SameOk (tb (n + 2)) 0 := fun d st h => by rw [tb_law_same]; exact same_scal (is_int_tb _) d st h
theorem same_tb1 (n : Nat) : SameOk (tb (n + 3)) 1 := fun d st h => by rw [tb_law_same]; exact same_run (is_int_tb _) (same_tb0 n) d st h
theorem grown_tb0 (n : Nat) : GrownOk (tb (n + 5)) 0 := fun ns st h hn => by
  obtain ⟨e, l, r, st', q1, q2⟩ := grown_zero (draw_tb _) (literal_tb n) ns st h hn
  exact ⟨e, l, r, st', by rw [tb_law_grown]; exact q1, q2⟩
theorem grown_tb1 (n : Nat) : GrownOk (tb (n + 6)) 1 := fun ns st h hn => by
  obtain ⟨e, l, r, st', q1, q2⟩ := grown_succ (by decide) (draw_tb _) (literal_tb _) (grown_tb0 n) ns st h hn
  exact ⟨e, l, r, st', by rw [tb_law_grown]; exact q1, q2⟩
theorem grown_tb2 (n : Nat) : GrownOk (tb (n + 7)) 2 := fun ns st h hn => by
  obtain ⟨e, l, r, st', q1, q2⟩ := grown_succ (by decide) (draw_tb _) (literal_tb _) (grown_tb1 n) ns st h hn
  exact ⟨e, l, r, st', by rw [tb_law_grown]; exact q1, q2⟩
theorem args_tb (n : Nat) : ArgsOk (tb (n + 8)) := fun ns fs st h hn hf => by rw [tb_law_args_grown]; exact args_grown (draw_tb _) (grown_tb2 n) ns fs st h hn hf
theorem plain_tb (n : Nat) : PlainOk (tb (n + 8)) := fun ns x y o st h hn hx hy ho => by rw [tb_law_plain_rows]; exact plain_run (draw_tb _) (kinds_tb _) (kind_tb _) (grown_tb2 n) (grown_tb0 _) ns x y o st h hn hx hy ho
theorem call_tb (n : Nat) : CallOk (tb (n + 9)) := fun ns fs x o st h hn hf hx ho => by rw [tb_law_call_rows]; exact call_run (fresh_tb _) (args_tb n) ns fs x o st h hn hf hx ho
theorem leaves_tb0 (n : Nat) : LeavesOk (tb (n + 1)) 0 := fun e l r st h => by rw [tb_leaves]; exact leaves_zero _ e l r st h
theorem leaves_tb1 (n : Nat) : LeavesOk (tb (n + 2)) 1 := fun e l r st h => by rw [tb_leaves]; exact leaves_succ (by decide) (leaves_tb0 n) e l r st h
theorem leaves_tb2 (n : Nat) : LeavesOk (tb (n + 3)) 2 := fun e l r st h => by rw [tb_leaves]; exact leaves_succ (by decide) (leaves_tb1 n) e l r st h
theorem rargs_tb (n : Nat) : AOk (tb (n + 1)) := fun row as st h => by rw [tb_row_args]; exact args_run _ row as st h
theorem exprs_tb (n : Nat) : XOk (tb (n + 2)) := fun row es st h => by rw [tb_row_exprs]; exact exprs_run (rargs_tb n) row es st h
theorem read_tb (n : Nat) : NOk (tb (n + 4)) := fun row rs st h => by rw [tb_names_read]; exact read_run (exprs_tb _) (leaves_tb2 n) row rs st h
theorem set_tb (n : Nat) : SOk (tb (n + 1)) := fun row ss st h => by rw [tb_names_set]; exact set_run _ row ss st h
theorem lent_tb (n : Nat) : LOk (tb (n + 2)) := fun row as es ls st h h2 hl => by rw [tb_names_lent]; exact lent_run (rargs_tb n) row as es ls st h h2 hl
end K4

set_option Elab.async false
set_option linter.all false
set_option maxRecDepth 100000
set_option maxHeartbeats 4000000
namespace K4
open PySem Ip L2 Cm
def depth : Nat := 12
def SameLine (cl : Cl) : Prop := ∀ (xs : List D) (st : Pl), NDs xs → xs.length ≤ 100000 → cl "_law_same" [some (.tuple xs), some (.tuple xs)] st = some (.bool true, st)
theorem same_line (n : Nat) : SameLine (tb (n + 3)) := fun xs st h hl => same_tb1 n _ st (by
  rw [dep_succ]
  refine .inr ⟨xs, .inr rfl, hl, fun x hx => ?_⟩
  obtain ⟨s, rfl, _⟩ := h x hx
  exact True.intro)
structure Facts (cl : Cl) : Prop where
  draw : DrawOk cl
  fresh : FreshOk cl
  plain : PlainOk cl
  call : CallOk cl
  same : SameLine cl
  read : NOk cl
  set_ : SOk cl
  lent : LOk cl
theorem facts_tb (n : Nat) : Facts (tb (n + 9)) := ⟨draw_tb _, fresh_tb _, plain_tb _, call_tb _, same_line _, read_tb _, set_tb _, lent_tb _⟩
/-- the two, or more, names -/
theorem names_loop {cl : Cl} (F : Facts cl) (n : Nat) (hn : n ≤ 90) (st : Pl) (h : Pok st) : ∃ ns x st', forG (fb cl (.one 3) (.cons (.app 2 (.lent [2] (.call "_law_fresh" (.pool 1 (.cons (.var 2) .nil))))) .nil)) ((List.range n).map fun (k : Nat) => PyData.int (k : Int))
    [.no, .pl, .ow [], .no, .no, .no, .no, .no, .no, .no, .no, .no, .no] st = some (.nx [.no, .pl, .ow ns, x, .no, .no, .no, .no, .no, .no, .no, .no, .no] st') ∧ (∀ y ∈ ns, ND y) ∧ ns.length = n ∧ Pok st' := by
  obtain ⟨env', st', e, ns, x, rfl, h1, h2, h3⟩ := forG_nx (f := fb cl (.one 3) (.cons (.app 2 (.lent [2] (.call "_law_fresh" (.pool 1 (.cons (.var 2) .nil))))) .nil))
    (fun i env st => ∃ ns x, env = [.no, .pl, .ow ns, x, .no, .no, .no, .no, .no, .no, .no, .no, .no] ∧ (∀ y ∈ ns, ND y) ∧ ns.length = i ∧ Pok st)
    ((List.range n).map fun (k : Nat) => PyData.int (k : Int)) [.no, .pl, .ow [], .no, .no, .no, .no, .no, .no, .no, .no, .no, .no] st ⟨[], _, rfl, (fun y hy => by cases hy), rfl, h⟩
    (fun i d env st hi ⟨ns, x, e, h1, h2, h3⟩ => by
      subst e
      obtain ⟨hi2, rfl⟩ := rng_at hi
      obtain ⟨w, st1, e1, hw, h4⟩ := F.fresh ns st h3 (Names.flat h1)
      have hl : ns.length < most := by
        rw [h2]
        exact Nat.lt_of_lt_of_le hi2 (Nat.le_trans hn (by decide))
      refine ⟨[.no, .pl, .ow (ns ++ [.str w]), .im (.int i), .no, .no, .no, .no, .no, .no, .no, .no, .no], st1, ?_, _, _, rfl, fun y hy => ?_, by simp [h2], h4⟩
      · simp [fb_eq, sgD, frzE, frzS, e1, flatD, hl]
      · rcases List.mem_append.mp hy with hy | hy
        · exact h1 y hy
        · rw [List.mem_singleton.mp hy]
          exact ⟨w, rfl, hw⟩)
  refine ⟨ns, x, st', e, h1, ?_, h3⟩
  simpa using h2
/-- every row is answered as drawn -/
theorem rows_loop {cl : Cl} (F : Facts cl) (rows : List D) (hr : ∀ x ∈ rows, Ent x) (a b c d e f g h' i : Sl) (st : Pl) : ∃ j k l m, forG (fb cl (.many [9, 10, 11, 12]) (.cons (.iff (.or (.not (.call "_law_same" (.cons (.call "names_read" (.cons (.var 9) .nil)) (.cons (.bi .tuple (.cons (.var 10) .nil)) .nil)))) (.not (.call "_law_same" (.cons (.call "names_set" (.cons (.var 9) .nil)) (.cons (.bi .tuple (.cons (.var 11) .nil)) .nil))))) (.cons (.ret (.cst (.bl false)))
  .nil) .nil)
  (.cons (.iff (.not (.call "_law_same" (.cons (.call "names_lent" (.cons (.var 9) .nil)) (.cons (.bi .tuple (.cons (.var 12) .nil)) .nil)))) (.cons (.ret (.cst (.bl false)))
  .nil) .nil)
  .nil))) rows [a, b, c, d, e, f, g, h', i, .no, .no, .no, .no] st = some (.nx [a, b, c, d, e, f, g, h', i, j, k, l, m] st) := by
  obtain ⟨env', st', e', j, k, l, m, rfl, rfl⟩ := forG_nx (f := fb cl (.many [9, 10, 11, 12]) (.cons (.iff (.or (.not (.call "_law_same" (.cons (.call "names_read" (.cons (.var 9) .nil)) (.cons (.bi .tuple (.cons (.var 10) .nil)) .nil)))) (.not (.call "_law_same" (.cons (.call "names_set" (.cons (.var 9) .nil)) (.cons (.bi .tuple (.cons (.var 11) .nil)) .nil))))) (.cons (.ret (.cst (.bl false)))
  .nil) .nil)
  (.cons (.iff (.not (.call "_law_same" (.cons (.call "names_lent" (.cons (.var 9) .nil)) (.cons (.bi .tuple (.cons (.var 12) .nil)) .nil)))) (.cons (.ret (.cst (.bl false)))
  .nil) .nil)
  .nil))) (fun _ env s => ∃ j k l m, env = [a, b, c, d, e, f, g, h', i, j, k, l, m] ∧ s = st) rows [a, b, c, d, e, f, g, h', i, .no, .no, .no, .no] st ⟨_, _, _, _, rfl, rfl⟩
    (fun n x env s hx ⟨j, k, l, m, q1, q2⟩ => by
      subst q1
      subst q2
      obtain ⟨row, rs, ss, ls, as, es, rfl, r1, r2, r3, r4, r5, n1, n2, n3⟩ := hr x (List.mem_of_getElem? hx)
      have l1 : rs.length ≤ 100000 := by
        cases r1 with
        | narrow x k h => exact (by decide : 1 ≤ 100000)
        | rest t xs es rs h hX he =>
          have q3 := he.len
          have q4 := hX.es_len
          omega
      have l2 : ss.length ≤ 100000 := by cases r2 <;> simp
      have l3 : ls.length ≤ 100000 := by
        have := r4.len
        omega
      have e1 := F.read row rs s r1
      have e2 := F.set_ row ss s r2
      have e3 := F.lent row as es ls s r3 r4 r5
      have e4 := F.same rs s n1 l1
      have e5 := F.same ss s n2 l2
      have e6 := F.same ls s n3 l3
      refine ⟨[a, b, c, d, e, f, g, h', i, .im row, .im (.list rs), .im (.list ss), .im (.list ls)], s, ?_, _, _, _, _, rfl, rfl⟩
      simp [fb_eq, sgD, itD, setMany, biD, Cst.d, e1, e2, e3, e4, e5, e6])
  exact ⟨j, k, l, m, e'⟩
theorem pok0 (ns : List Int) : Pok (pl0 ns) := ⟨Int.le_refl 0, Int.le_refl 0, by show (0 : Int) < 10 ^ 18; decide, by show (0 : Int) ≤ 7; decide⟩
theorem true_ (ns0 : List Int) (h0 : ns0.length ≤ 63) : ∃ st, lawRun (tb depth) I_law.n I_law.body ns0 = some (.rt (.bool true) st) := by
  have F : Facts (tb depth) := facts_tb 3
  generalize tb depth = cl at F
  have m0 : (0 : Nat) ≤ most := by decide
  have m2 : (2 : Nat) ≤ most := by decide
  have m3 : (3 : Nat) ≤ most := by decide
  have p17 : 14 + 3 ≤ most := by decide
  have p20 : 14 + (3 + 3) ≤ most := by decide
  have p23 : 14 + (3 + (3 + 3)) ≤ most := by decide
  obtain ⟨r, st1, e1, r0, r1, h1⟩ := F.draw 4 (pl0 ns0) (pok0 ns0) (by decide) (by decide)
  obtain ⟨ns, x, st2, e2, hnd, hlen, h2⟩ := names_loop F (2 + r).toNat (by omega) st1 h1
  have hn : Names ns := ⟨hnd, by omega, by omega⟩
  have hrg := rngD_nat (n := 2 + r) (by omega) (by omega)
  obtain ⟨o, st3, e3, ho, h3⟩ := F.fresh ns st2 h2 (Names.flat hnd)
  have ho' : ND (.str o) := ⟨o, rfl, ho⟩
  obtain ⟨k4, x4, st4, e4, at4, nd4, h4⟩ := pick F.draw hn st3 h3
  obtain ⟨k5, x5, st5, e5, at5, nd5, h5⟩ := pick F.draw hn st4 h4
  obtain ⟨rows6, st6, e6, en6, ln6, h6⟩ := F.plain ns x4 x5 (.str o) st5 h5 hn nd4 nd5 ho'
  obtain ⟨rows7, st7, e7, en7, ln7, h7⟩ := F.call ns [.str "worth", .str "lent", .str "worth"] x4 (.str o) st6 h6 hn ⟨by simp, by decide⟩ nd4 ho'
  obtain ⟨s8, st8, e8, s80, s81, h8⟩ := F.draw 4 st7 h7 (by decide) (by decide)
  have hrg8 := rngD_nat (n := s8) s80 (by omega)
  obtain ⟨fs, st9, e9, h9, hfs, lfs⟩ := lcG_all (f := lb cl 3 .nil (.ix (.lst (.cons (.cst (.str "worth")) (.cons (.cst (.str "lent")) .nil))) (.call "_law_draw" (.pool 1 (.cons (.cst (.int 2)) .nil))))
      [.no, .pl, .im (.list ns), x, .im (.str o), .im x4, .im x5, .im (.list (rows6 ++ rows7)), .no, .no, .no, .no, .no]) Pok (fun d => d = .str "lent" ∨ d = .str "worth") ((List.range s8.toNat).map fun (k : Nat) => PyData.int (k : Int)) st8 h8 (fun d hd st h => by
    obtain ⟨t, st', e, t0, t1, h'⟩ := F.draw 2 st h (by decide) (by decide)
    have hat := atI_of (xs := [PyData.str "worth", .str "lent"]) t0 (by simpa using t1)
    generalize hx : [PyData.str "worth", .str "lent"][t.toNat]'_ = y at hat
    have hm : y ∈ [PyData.str "worth", .str "lent"] := by rw [← hx]; exact List.getElem_mem _
    refine ⟨y, st', ?_, h', ?_⟩
    · simp [lb_eq, ixD, Cst.d, m2, e, hat]
    · simp only [List.mem_cons, List.not_mem_nil, or_false] at hm
      exact hm.symm)
  have hform : Forms fs := ⟨hfs, by rw [lfs]; simp; omega⟩
  obtain ⟨rows10, st10, e10, en10, ln10, h10⟩ := F.call ns fs x5 (.str o) st9 h9 hn hform nd5 ho'
  obtain ⟨rows11, st11, e11, en11, ln11, h11⟩ := F.call ns [.str "lent", .str "worth", .str "lent"] x5 (.str o) st10 h10 hn ⟨by simp, by decide⟩ nd5 ho'
  have hcut : (cutD (rows6 ++ (rows7 ++ (rows10 ++ rows11))) none (some 6)).length ≤ 23 := by
    unfold cutD
    refine Nat.le_trans (List.length_take_le _ _) ?_
    simp [ln6, ln7, ln10, ln11, HT.sIx]
  have hmem : ∀ y ∈ cutD (rows6 ++ (rows7 ++ (rows10 ++ rows11))) none (some 6), y ∈ rows6 ++ (rows7 ++ (rows10 ++ rows11)) := fun y hy => List.mem_of_mem_drop (List.mem_of_mem_take hy)
  have hall : ∀ y ∈ rows6 ++ (rows7 ++ (rows10 ++ rows11)), Ent y := fun y hy => by
    simp only [List.mem_append] at hy
    rcases hy with hy | hy | hy | hy
    · exact en6 y hy
    · exact en7 y hy
    · exact en10 y hy
    · exact en11 y hy
  have hsum : (14 + (3 + (3 + 3))) + (cutD (rows6 ++ (rows7 ++ (rows10 ++ rows11))) none (some 6)).length ≤ most := by
    show _ ≤ 100000
    omega
  obtain ⟨j, k, l, m, e12⟩ := rows_loop F ((rows6 ++ (rows7 ++ (rows10 ++ rows11))) ++ cutD (rows6 ++ (rows7 ++ (rows10 ++ rows11))) none (some 6)) (fun y hy => by
    rcases List.mem_append.mp hy with hy | hy
    · exact hall y hy
    · exact hall y (hmem y hy)) .no .pl (.im (.list ns)) x (.im (.str o)) (.im x4) (.im x5) (.im (.list (rows6 ++ (rows7 ++ (rows10 ++ rows11))))) (.im (.list fs)) st11
  refine ⟨st11, ?_⟩
  show evSs cl I_law.body [.no, .pl, .no, .no, .no, .no, .no, .no, .no, .no, .no, .no, .no] (pl0 ns0) = _
  have l8 : s8.toNat ≤ most := Nat.le_trans (by omega : s8.toNat ≤ 4) (by decide)
  simp only [List.append_assoc] at e12
  simp [I_law, binD, slD, ixD, itD, biD, Cst.d, m0, m2, m3, e1, e2, hrg, e3, e4, at4, e5, at5, e6, e7, e8, hrg8, e9, e10, e11, ln6, ln7, ln10, ln11, l8, p17, p20, p23, hsum, e12, frzE, frzS]
end K4

set_option Elab.async false
set_option linter.all false
set_option maxRecDepth 100000
set_option maxHeartbeats 0
namespace K4
open PySem PySem.Spec PyProof.Rows L2 Ip
section
variable {P : Program} {w : World} {K : PySem.W.Frag} {mg : Str → Option Value} {base : Heap}
structure All (K : PySem.W.Frag) (mg : Str → Option Value) : Prop where
  h_names_read : Hv K mg "names_read" (top 1) ["row"]
  h_names_set : Hv K mg "names_set" (top 2) ["row"]
  h_names_lent : Hv K mg "names_lent" (top 3) ["row"]
  h_row_args : Hv K mg "row_args" (top 4) ["row"]
  h_row_exprs : Hv K mg "row_exprs" (top 5) ["row"]
  h_leaves : Hv K mg "leaves" (top 6) ["expr"]
  h_law_mixed : Hv K mg "_law_mixed" (top 9) ["_law_cell", "_law_turn", "_law_limit"]
  h_law_draw : Hv K mg "_law_draw" (top 10) ["_law_pool_here", "_law_limit"]
  h_law_kinds : Hv K mg "_law_kinds" (top 11) []
  h_law_word : Hv K mg "_law_word" (top 12) ["_law_pool_here", "_law_first", "_law_signs", "_law_more"]
  h_law_fresh : Hv K mg "_law_fresh" (top 13) ["_law_pool_here", "_law_used"]
  h_law_literal : Hv K mg "_law_literal" (top 14) ["_law_pool_here"]
  h_law_kind : Hv K mg "_law_kind" (top 15) ["_law_pool_here"]
  h_law_is_int : Hv K mg "_law_is_int" (top 16) ["_law_thing"]
  h_law_same : Hv K mg "_law_same" (top 17) ["_law_mine", "_law_due"]
  h_law_grown : Hv K mg "_law_grown" (top 18) ["_law_pool_here", "_law_names", "_law_depth"]
  h_law_args_grown : Hv K mg "_law_args_grown" (top 19) ["_law_pool_here", "_law_names", "_law_forms"]
  h_law_plain_rows : Hv K mg "_law_plain_rows" (top 20) ["_law_pool_here", "_law_names", "_law_x", "_law_y", "_law_own"]
  h_law_call_rows : Hv K mg "_law_call_rows" (top 21) ["_law_pool_here", "_law_names", "_law_x", "_law_own", "_law_forms"]
  b_bool : mg "bool" = none
  b_int : mg "int" = none
  b_isinstance : mg "isinstance" = none
  b_len : mg "len" = none
  b_list : mg "list" = none
  b_range : mg "range" = none
  b_str : mg "str" = none
  b_tuple : mg "tuple" = none
def names : List Str := ["names_read", "names_set", "names_lent", "row_args", "row_exprs", "leaves", "_law_mixed", "_law_draw", "_law_kinds", "_law_word", "_law_fresh", "_law_literal", "_law_kind", "_law_is_int", "_law_same", "_law_grown", "_law_args_grown", "_law_plain_rows", "_law_call_rows"]
theorem all_ok (A : All K mg) : ∀ n, ∀ f ∈ names, Fo P w K mg base (n + 2) (tb n) f
  | 0 => fun f hf => by
    simp only [names, List.mem_cons, List.not_mem_nil, or_false] at hf
    rcases hf with rfl | rfl | rfl | rfl | rfl | rfl | rfl | rfl | rfl | rfl | rfl | rfl | rfl | rfl | rfl | rfl | rfl | rfl | rfl
    · exact fo_zero A.h_names_read
    · exact fo_zero A.h_names_set
    · exact fo_zero A.h_names_lent
    · exact fo_zero A.h_row_args
    · exact fo_zero A.h_row_exprs
    · exact fo_zero A.h_leaves
    · exact fo_zero A.h_law_mixed
    · exact fo_zero A.h_law_draw
    · exact fo_zero A.h_law_kinds
    · exact fo_zero A.h_law_word
    · exact fo_zero A.h_law_fresh
    · exact fo_zero A.h_law_literal
    · exact fo_zero A.h_law_kind
    · exact fo_zero A.h_law_is_int
    · exact fo_zero A.h_law_same
    · exact fo_zero A.h_law_grown
    · exact fo_zero A.h_law_args_grown
    · exact fo_zero A.h_law_plain_rows
    · exact fo_zero A.h_law_call_rows
  | n + 1 => fun f hf => by
    have ih := all_ok A n
    simp only [names, List.mem_cons, List.not_mem_nil, or_false] at hf
    rcases hf with rfl | rfl | rfl | rfl | rfl | rfl | rfl | rfl | rfl | rfl | rfl | rfl | rfl | rfl | rfl | rfl | rfl | rfl | rfl
    · refine fo_step A.h_names_read s_names_read rfl rfl rfl (d_names_read K (tb n)) rfl (fun as s => tb_names_read n as s) (fun g hg => ih g ?_) (fun g hg => ?_)
      · simp only [List.mem_cons, List.not_mem_nil, or_false] at hg
        rcases hg with rfl | rfl
        all_goals (simp [names])
      · simp only [List.mem_cons, List.not_mem_nil, or_false] at hg
        subst hg
        · exact A.b_tuple
    · refine fo_step A.h_names_set s_names_set rfl rfl rfl (d_names_set K (tb n)) rfl (fun as s => tb_names_set n as s) (fun g hg => ih g ?_) (fun g hg => ?_)
      · cases hg
      · cases hg
    · refine fo_step A.h_names_lent s_names_lent rfl rfl rfl (d_names_lent K (tb n)) rfl (fun as s => tb_names_lent n as s) (fun g hg => ih g ?_) (fun g hg => ?_)
      · simp only [List.mem_cons, List.not_mem_nil, or_false] at hg
        subst hg
        all_goals (simp [names])
      · simp only [List.mem_cons, List.not_mem_nil, or_false] at hg
        subst hg
        · exact A.b_tuple
    · refine fo_step A.h_row_args s_row_args rfl rfl rfl (d_row_args K (tb n)) rfl (fun as s => tb_row_args n as s) (fun g hg => ih g ?_) (fun g hg => ?_)
      · cases hg
      · cases hg
    · refine fo_step A.h_row_exprs s_row_exprs rfl rfl rfl (d_row_exprs K (tb n)) rfl (fun as s => tb_row_exprs n as s) (fun g hg => ih g ?_) (fun g hg => ?_)
      · simp only [List.mem_cons, List.not_mem_nil, or_false] at hg
        subst hg
        all_goals (simp [names])
      · simp only [List.mem_cons, List.not_mem_nil, or_false] at hg
        subst hg
        · exact A.b_tuple
    · refine fo_step A.h_leaves s_leaves rfl rfl rfl (d_leaves K (tb n)) rfl (fun as s => tb_leaves n as s) (fun g hg => ih g ?_) (fun g hg => ?_)
      · simp only [List.mem_cons, List.not_mem_nil, or_false] at hg
        subst hg
        all_goals (simp [names])
      · cases hg
    · refine fo_step A.h_law_mixed s_law_mixed rfl rfl rfl (d_law_mixed K (tb n)) rfl (fun as s => tb_law_mixed n as s) (fun g hg => ih g ?_) (fun g hg => ?_)
      · cases hg
      · simp only [List.mem_cons, List.not_mem_nil, or_false] at hg
        subst hg
        · exact A.b_int
    · refine fo_step A.h_law_draw s_law_draw rfl rfl rfl (d_law_draw K (tb n)) rfl (fun as s => tb_law_draw n as s) (fun g hg => ih g ?_) (fun g hg => ?_)
      · simp only [List.mem_cons, List.not_mem_nil, or_false] at hg
        subst hg
        all_goals (simp [names])
      · simp only [List.mem_cons, List.not_mem_nil, or_false] at hg
        rcases hg with rfl | rfl
        · exact A.b_int
        · exact A.b_len
    · refine fo_step A.h_law_kinds s_law_kinds rfl rfl rfl (d_law_kinds K (tb n)) rfl (fun as s => tb_law_kinds n as s) (fun g hg => ih g ?_) (fun g hg => ?_)
      · cases hg
      · cases hg
    · refine fo_step A.h_law_word s_law_word rfl rfl rfl (d_law_word K (tb n)) rfl (fun as s => tb_law_word n as s) (fun g hg => ih g ?_) (fun g hg => ?_)
      · simp only [List.mem_cons, List.not_mem_nil, or_false] at hg
        subst hg
        all_goals (simp [names])
      · simp only [List.mem_cons, List.not_mem_nil, or_false] at hg
        rcases hg with rfl | rfl
        · exact A.b_range
        · exact A.b_len
    · refine fo_step A.h_law_fresh s_law_fresh rfl rfl rfl (d_law_fresh K (tb n)) rfl (fun as s => tb_law_fresh n as s) (fun g hg => ih g ?_) (fun g hg => ?_)
      · simp only [List.mem_cons, List.not_mem_nil, or_false] at hg
        rcases hg with rfl | rfl | rfl
        all_goals (simp [names])
      · simp only [List.mem_cons, List.not_mem_nil, or_false] at hg
        rcases hg with rfl | rfl
        · exact A.b_range
        · exact A.b_str
    · refine fo_step A.h_law_literal s_law_literal rfl rfl rfl (d_law_literal K (tb n)) rfl (fun as s => tb_law_literal n as s) (fun g hg => ih g ?_) (fun g hg => ?_)
      · simp only [List.mem_cons, List.not_mem_nil, or_false] at hg
        rcases hg with rfl | rfl
        all_goals (simp [names])
      · cases hg
    · refine fo_step A.h_law_kind s_law_kind rfl rfl rfl (d_law_kind K (tb n)) rfl (fun as s => tb_law_kind n as s) (fun g hg => ih g ?_) (fun g hg => ?_)
      · simp only [List.mem_cons, List.not_mem_nil, or_false] at hg
        rcases hg with rfl | rfl
        all_goals (simp [names])
      · cases hg
    · refine fo_step A.h_law_is_int s_law_is_int rfl rfl rfl (d_law_is_int K (tb n)) rfl (fun as s => tb_law_is_int n as s) (fun g hg => ih g ?_) (fun g hg => ?_)
      · cases hg
      · simp only [List.mem_cons, List.not_mem_nil, or_false] at hg
        rcases hg with rfl | rfl | rfl
        · exact A.b_isinstance
        · exact A.b_int
        · exact A.b_bool
    · refine fo_step A.h_law_same s_law_same rfl rfl rfl (d_law_same K (tb n)) rfl (fun as s => tb_law_same n as s) (fun g hg => ih g ?_) (fun g hg => ?_)
      · simp only [List.mem_cons, List.not_mem_nil, or_false] at hg
        rcases hg with rfl | rfl
        all_goals (simp [names])
      · simp only [List.mem_cons, List.not_mem_nil, or_false] at hg
        rcases hg with rfl | rfl | rfl | rfl | rfl | rfl | rfl | rfl
        · exact A.b_range
        · exact A.b_len
        · exact A.b_isinstance
        · exact A.b_tuple
        · exact A.b_list
        · exact A.b_str
        · exact A.b_int
        · exact A.b_bool
    · refine fo_step A.h_law_grown s_law_grown rfl rfl rfl (d_law_grown K (tb n)) rfl (fun as s => tb_law_grown n as s) (fun g hg => ih g ?_) (fun g hg => ?_)
      · simp only [List.mem_cons, List.not_mem_nil, or_false] at hg
        rcases hg with rfl | rfl | rfl
        all_goals (simp [names])
      · simp only [List.mem_cons, List.not_mem_nil, or_false] at hg
        subst hg
        · exact A.b_len
    · refine fo_step A.h_law_args_grown s_law_args_grown rfl rfl rfl (d_law_args_grown K (tb n)) rfl (fun as s => tb_law_args_grown n as s) (fun g hg => ih g ?_) (fun g hg => ?_)
      · simp only [List.mem_cons, List.not_mem_nil, or_false] at hg
        rcases hg with rfl | rfl
        all_goals (simp [names])
      · simp only [List.mem_cons, List.not_mem_nil, or_false] at hg
        subst hg
        · exact A.b_len
    · refine fo_step A.h_law_plain_rows s_law_plain_rows rfl rfl rfl (d_law_plain_rows K (tb n)) rfl (fun as s => tb_law_plain_rows n as s) (fun g hg => ih g ?_) (fun g hg => ?_)
      · simp only [List.mem_cons, List.not_mem_nil, or_false] at hg
        rcases hg with rfl | rfl | rfl | rfl
        all_goals (simp [names])
      · cases hg
    · refine fo_step A.h_law_call_rows s_law_call_rows rfl rfl rfl (d_law_call_rows K (tb n)) rfl (fun as s => tb_law_call_rows n as s) (fun g hg => ih g ?_) (fun g hg => ?_)
      · simp only [List.mem_cons, List.not_mem_nil, or_false] at hg
        rcases hg with rfl | rfl
        all_goals (simp [names])
      · cases hg
theorem ok_law {f : Addr} {fd fdp : FuncData} {fp : Addr} (A : All K mg) (F : FunD K "law" "law" (defArgs (top 22)) (defBody (top 22)) (defScope (top 22)) [] [] f fd) (Fp : FunD K "_law_pool" "_law_pool" (defArgs (top 8)) (defBody (top 8)) (defScope (top 8)) [] [] fp fdp) (hp : mg "_law_pool" = some (.ref fp)) :
    FnOk P w K mg base CX0 (depth + 3) f fd ["_law_script"] (spLaw K) := by
  have Gp : FnOk P w K mg base (L2.CX P w) 1 fp fdp ["_law_script"] (spPool K) := pool_ok Fp ⟨rfl, rfl, rfl, by decide +kernel, rfl, by decide +kernel, by decide +kernel⟩ rfl A.b_list rfl (Or.inl rfl) (by decide) (by decide)
  have bp : Binds K fdp ["_law_script"] [] := Fp.bindsN fun _ _ _ _ _ _ us hl => match us, hl with | [_], _ => rfl
  refine quiet_fn (law_ok (Γ := g_law K (tb depth)) (I := I_law) (k := depth + 1) (N := n_law.drop 2) F s_law rfl rfl rfl (d_law K (tb depth)) rfl (fun g hg => all_ok A depth g ?_) (fun g hg => ?_) Gp hp Fp.kp bp rfl (by first | exact Or.inl rfl | exact Or.inr (Or.inl rfl)) (by first | exact Or.inl rfl | exact Or.inr rfl) (by decide) (by decide) (by decide) (fun ns hl => true_ ns hl)) (fun _ _ _ _ z => z)
  · simp only [List.mem_cons, List.not_mem_nil, or_false] at hg
    rcases hg with rfl | rfl | rfl | rfl | rfl | rfl | rfl | rfl
    all_goals (simp [names])
  · simp only [List.mem_cons, List.not_mem_nil, or_false] at hg
    rcases hg with rfl | rfl | rfl
    · exact A.b_tuple
    · exact A.b_range
    · exact A.b_len
end
def dd_names_read : He.DefD := ⟨("names_read", none), "names_read", "names_read", defArgs (top 1), defBody (top 1), defScope (top 1), [], []⟩
def dd_names_set : He.DefD := ⟨("names_set", none), "names_set", "names_set", defArgs (top 2), defBody (top 2), defScope (top 2), [], []⟩
def dd_names_lent : He.DefD := ⟨("names_lent", none), "names_lent", "names_lent", defArgs (top 3), defBody (top 3), defScope (top 3), [], []⟩
def dd_row_args : He.DefD := ⟨("row_args", none), "row_args", "row_args", defArgs (top 4), defBody (top 4), defScope (top 4), [], []⟩
def dd_row_exprs : He.DefD := ⟨("row_exprs", none), "row_exprs", "row_exprs", defArgs (top 5), defBody (top 5), defScope (top 5), [], []⟩
def dd_leaves : He.DefD := ⟨("leaves", none), "leaves", "leaves", defArgs (top 6), defBody (top 6), defScope (top 6), [], []⟩
def dd_law_mixed : He.DefD := ⟨("_law_mixed", none), "_law_mixed", "_law_mixed", defArgs (top 9), defBody (top 9), defScope (top 9), [], []⟩
def dd_law_draw : He.DefD := ⟨("_law_draw", none), "_law_draw", "_law_draw", defArgs (top 10), defBody (top 10), defScope (top 10), [], []⟩
def dd_law_kinds : He.DefD := ⟨("_law_kinds", none), "_law_kinds", "_law_kinds", defArgs (top 11), defBody (top 11), defScope (top 11), [], []⟩
def dd_law_word : He.DefD := ⟨("_law_word", none), "_law_word", "_law_word", defArgs (top 12), defBody (top 12), defScope (top 12), [], []⟩
def dd_law_fresh : He.DefD := ⟨("_law_fresh", none), "_law_fresh", "_law_fresh", defArgs (top 13), defBody (top 13), defScope (top 13), [], []⟩
def dd_law_literal : He.DefD := ⟨("_law_literal", none), "_law_literal", "_law_literal", defArgs (top 14), defBody (top 14), defScope (top 14), [], []⟩
def dd_law_kind : He.DefD := ⟨("_law_kind", none), "_law_kind", "_law_kind", defArgs (top 15), defBody (top 15), defScope (top 15), [], []⟩
def dd_law_is_int : He.DefD := ⟨("_law_is_int", none), "_law_is_int", "_law_is_int", defArgs (top 16), defBody (top 16), defScope (top 16), [], []⟩
def dd_law_same : He.DefD := ⟨("_law_same", none), "_law_same", "_law_same", defArgs (top 17), defBody (top 17), defScope (top 17), [], []⟩
def dd_law_grown : He.DefD := ⟨("_law_grown", none), "_law_grown", "_law_grown", defArgs (top 18), defBody (top 18), defScope (top 18), [], []⟩
def dd_law_args_grown : He.DefD := ⟨("_law_args_grown", none), "_law_args_grown", "_law_args_grown", defArgs (top 19), defBody (top 19), defScope (top 19), [], []⟩
def dd_law_plain_rows : He.DefD := ⟨("_law_plain_rows", none), "_law_plain_rows", "_law_plain_rows", defArgs (top 20), defBody (top 20), defScope (top 20), [], []⟩
def dd_law_call_rows : He.DefD := ⟨("_law_call_rows", none), "_law_call_rows", "_law_call_rows", defArgs (top 21), defBody (top 21), defScope (top 21), [], []⟩
def dd_law_pool : He.DefD := ⟨("_law_pool", none), "_law_pool", "_law_pool", defArgs (top 8), defBody (top 8), defScope (top 8), [], []⟩
def dd_law : He.DefD := ⟨("law", none), "law", "law", defArgs (top 22), defBody (top 22), defScope (top 22), [], []⟩
def fn : List He.DefD := [dd_names_read, dd_names_set, dd_names_lent, dd_row_args, dd_row_exprs, dd_leaves, dd_law_mixed, dd_law_draw, dd_law_kinds, dd_law_word, dd_law_fresh, dd_law_literal, dd_law_kind, dd_law_is_int, dd_law_same, dd_law_grown, dd_law_args_grown, dd_law_plain_rows, dd_law_call_rows, dd_law_pool, dd_law]
def fa : List He.Fa := [.glo "names_read", .glo "names_set", .glo "names_lent", .glo "row_args", .glo "row_exprs", .glo "leaves", .glo "_law_mixed", .glo "_law_draw", .glo "_law_kinds", .glo "_law_word", .glo "_law_fresh", .glo "_law_literal", .glo "_law_kind", .glo "_law_is_int", .glo "_law_same", .glo "_law_grown", .glo "_law_args_grown", .glo "_law_plain_rows", .glo "_law_call_rows", .glo "_law_pool", .glo "law", .free "bool", .free "int", .free "isinstance", .free "len", .free "list", .free "range", .free "str", .free "tuple"]
abbrev R : PySem.W.OpenRow := PySem.W.OpenLaw.row PySem.Challenge.rw_quickways_k04_names_of_rows
abbrev hk : PySem.W.Hook := He.hookD 4 fa fn
def ob (s : PySem.W.SharedT) : He.AlD := He.obsDG 4 fa fn (HandSHeadRun.getT s)
theorem ob_eq (s : PySem.W.SharedT) : ob s = hk.obs s.abs := He.obsDG_eq (HandSHeadRun.getT_eq s)
def loose1 : List Str := ["names_read", "names_set", "names_lent", "row_args", "row_exprs", "leaves", "_law_pool", "_law_mixed", "_law_draw", "_law_kinds", "_law_word", "_law_fresh", "_law_literal", "_law_kind", "_law_is_int", "_law_same", "_law_grown", "_law_args_grown", "_law_plain_rows", "_law_call_rows"]
def loose2 : List Str := []
theorem run (w : World) : HandSHeadRun.RunEq R (PySem.W.view R.prog [22]) hk ob 1780 (loose1 ++ loose2) w := by
  intro os
  kernel_rfl
theorem facts {P : Program} {w : World} {K : PySem.W.Frag} {h : Heap} {mg : Str → Option Value} {f : Addr} (X : K.In h) (G : h.Ns mainGlobals mg) (hfa : mg ("law" : Str) = some (.ref f)) (c : He.SaysD fa fn K) :
    ∃ fd : FuncData, (∀ (s : Shared) (v : Value), BindsTo s fd ⟨[v], []⟩ [("_law_script", v)]) ∧ ∀ base : Heap, K.In base → base.Ns mainGlobals mg → FnOk P w K mg base CX0 (depth + 3) f fd ["_law_script"] (spLaw K) := by
  obtain ⟨f0, F0⟩ := c.def_ 0 (d := dd_names_read) rfl
  have G0 := He.glo_ok X G (c.fact 0 (f := .glo "names_read") rfl)
  obtain ⟨f1, F1⟩ := c.def_ 1 (d := dd_names_set) rfl
  have G1 := He.glo_ok X G (c.fact 1 (f := .glo "names_set") rfl)
  obtain ⟨f2, F2⟩ := c.def_ 2 (d := dd_names_lent) rfl
  have G2 := He.glo_ok X G (c.fact 2 (f := .glo "names_lent") rfl)
  obtain ⟨f3, F3⟩ := c.def_ 3 (d := dd_row_args) rfl
  have G3 := He.glo_ok X G (c.fact 3 (f := .glo "row_args") rfl)
  obtain ⟨f4, F4⟩ := c.def_ 4 (d := dd_row_exprs) rfl
  have G4 := He.glo_ok X G (c.fact 4 (f := .glo "row_exprs") rfl)
  obtain ⟨f5, F5⟩ := c.def_ 5 (d := dd_leaves) rfl
  have G5 := He.glo_ok X G (c.fact 5 (f := .glo "leaves") rfl)
  obtain ⟨f6, F6⟩ := c.def_ 6 (d := dd_law_mixed) rfl
  have G6 := He.glo_ok X G (c.fact 6 (f := .glo "_law_mixed") rfl)
  obtain ⟨f7, F7⟩ := c.def_ 7 (d := dd_law_draw) rfl
  have G7 := He.glo_ok X G (c.fact 7 (f := .glo "_law_draw") rfl)
  obtain ⟨f8, F8⟩ := c.def_ 8 (d := dd_law_kinds) rfl
  have G8 := He.glo_ok X G (c.fact 8 (f := .glo "_law_kinds") rfl)
  obtain ⟨f9, F9⟩ := c.def_ 9 (d := dd_law_word) rfl
  have G9 := He.glo_ok X G (c.fact 9 (f := .glo "_law_word") rfl)
  obtain ⟨f10, F10⟩ := c.def_ 10 (d := dd_law_fresh) rfl
  have G10 := He.glo_ok X G (c.fact 10 (f := .glo "_law_fresh") rfl)
  obtain ⟨f11, F11⟩ := c.def_ 11 (d := dd_law_literal) rfl
  have G11 := He.glo_ok X G (c.fact 11 (f := .glo "_law_literal") rfl)
  obtain ⟨f12, F12⟩ := c.def_ 12 (d := dd_law_kind) rfl
  have G12 := He.glo_ok X G (c.fact 12 (f := .glo "_law_kind") rfl)
  obtain ⟨f13, F13⟩ := c.def_ 13 (d := dd_law_is_int) rfl
  have G13 := He.glo_ok X G (c.fact 13 (f := .glo "_law_is_int") rfl)
  obtain ⟨f14, F14⟩ := c.def_ 14 (d := dd_law_same) rfl
  have G14 := He.glo_ok X G (c.fact 14 (f := .glo "_law_same") rfl)
  obtain ⟨f15, F15⟩ := c.def_ 15 (d := dd_law_grown) rfl
  have G15 := He.glo_ok X G (c.fact 15 (f := .glo "_law_grown") rfl)
  obtain ⟨f16, F16⟩ := c.def_ 16 (d := dd_law_args_grown) rfl
  have G16 := He.glo_ok X G (c.fact 16 (f := .glo "_law_args_grown") rfl)
  obtain ⟨f17, F17⟩ := c.def_ 17 (d := dd_law_plain_rows) rfl
  have G17 := He.glo_ok X G (c.fact 17 (f := .glo "_law_plain_rows") rfl)
  obtain ⟨f18, F18⟩ := c.def_ 18 (d := dd_law_call_rows) rfl
  have G18 := He.glo_ok X G (c.fact 18 (f := .glo "_law_call_rows") rfl)
  obtain ⟨f19, F19⟩ := c.def_ 19 (d := dd_law_pool) rfl
  have G19 := He.glo_ok X G (c.fact 19 (f := .glo "_law_pool") rfl)
  obtain ⟨f20, F20⟩ := c.def_ 20 (d := dd_law) rfl
  have G20 := He.glo_ok X G (c.fact 20 (f := .glo "law") rfl)
  have B0 := He.free_ok X G (c.fact 21 (f := .free "bool") rfl)
  have B1 := He.free_ok X G (c.fact 22 (f := .free "int") rfl)
  have B2 := He.free_ok X G (c.fact 23 (f := .free "isinstance") rfl)
  have B3 := He.free_ok X G (c.fact 24 (f := .free "len") rfl)
  have B4 := He.free_ok X G (c.fact 25 (f := .free "list") rfl)
  have B5 := He.free_ok X G (c.fact 26 (f := .free "range") rfl)
  have B6 := He.free_ok X G (c.fact 27 (f := .free "str") rfl)
  have B7 := He.free_ok X G (c.fact 28 (f := .free "tuple") rfl)
  have A : All K mg := ⟨
    ⟨_, f0, F0, G0, FunD.bindsN (ps := ["row"]) F0 fun _ _ _ _ _ _ us hl => match us, hl with | [_], _ => rfl⟩,
    ⟨_, f1, F1, G1, FunD.bindsN (ps := ["row"]) F1 fun _ _ _ _ _ _ us hl => match us, hl with | [_], _ => rfl⟩,
    ⟨_, f2, F2, G2, FunD.bindsN (ps := ["row"]) F2 fun _ _ _ _ _ _ us hl => match us, hl with | [_], _ => rfl⟩,
    ⟨_, f3, F3, G3, FunD.bindsN (ps := ["row"]) F3 fun _ _ _ _ _ _ us hl => match us, hl with | [_], _ => rfl⟩,
    ⟨_, f4, F4, G4, FunD.bindsN (ps := ["row"]) F4 fun _ _ _ _ _ _ us hl => match us, hl with | [_], _ => rfl⟩,
    ⟨_, f5, F5, G5, FunD.bindsN (ps := ["expr"]) F5 fun _ _ _ _ _ _ us hl => match us, hl with | [_], _ => rfl⟩,
    ⟨_, f6, F6, G6, FunD.bindsN (ps := ["_law_cell", "_law_turn", "_law_limit"]) F6 fun _ _ _ _ _ _ us hl => match us, hl with | [_, _, _], _ => rfl⟩,
    ⟨_, f7, F7, G7, FunD.bindsN (ps := ["_law_pool_here", "_law_limit"]) F7 fun _ _ _ _ _ _ us hl => match us, hl with | [_, _], _ => rfl⟩,
    ⟨_, f8, F8, G8, FunD.bindsN (ps := []) F8 fun _ _ _ _ _ _ us hl => match us, hl with | [], _ => rfl⟩,
    ⟨_, f9, F9, G9, FunD.bindsN (ps := ["_law_pool_here", "_law_first", "_law_signs", "_law_more"]) F9 fun _ _ _ _ _ _ us hl => match us, hl with | [_, _, _, _], _ => rfl⟩,
    ⟨_, f10, F10, G10, FunD.bindsN (ps := ["_law_pool_here", "_law_used"]) F10 fun _ _ _ _ _ _ us hl => match us, hl with | [_, _], _ => rfl⟩,
    ⟨_, f11, F11, G11, FunD.bindsN (ps := ["_law_pool_here"]) F11 fun _ _ _ _ _ _ us hl => match us, hl with | [_], _ => rfl⟩,
    ⟨_, f12, F12, G12, FunD.bindsN (ps := ["_law_pool_here"]) F12 fun _ _ _ _ _ _ us hl => match us, hl with | [_], _ => rfl⟩,
    ⟨_, f13, F13, G13, FunD.bindsN (ps := ["_law_thing"]) F13 fun _ _ _ _ _ _ us hl => match us, hl with | [_], _ => rfl⟩,
    ⟨_, f14, F14, G14, FunD.bindsN (ps := ["_law_mine", "_law_due"]) F14 fun _ _ _ _ _ _ us hl => match us, hl with | [_, _], _ => rfl⟩,
    ⟨_, f15, F15, G15, FunD.bindsN (ps := ["_law_pool_here", "_law_names", "_law_depth"]) F15 fun _ _ _ _ _ _ us hl => match us, hl with | [_, _, _], _ => rfl⟩,
    ⟨_, f16, F16, G16, FunD.bindsN (ps := ["_law_pool_here", "_law_names", "_law_forms"]) F16 fun _ _ _ _ _ _ us hl => match us, hl with | [_, _, _], _ => rfl⟩,
    ⟨_, f17, F17, G17, FunD.bindsN (ps := ["_law_pool_here", "_law_names", "_law_x", "_law_y", "_law_own"]) F17 fun _ _ _ _ _ _ us hl => match us, hl with | [_, _, _, _, _], _ => rfl⟩,
    ⟨_, f18, F18, G18, FunD.bindsN (ps := ["_law_pool_here", "_law_names", "_law_x", "_law_own", "_law_forms"]) F18 fun _ _ _ _ _ _ us hl => match us, hl with | [_, _, _, _, _], _ => rfl⟩,
    B0,
    B1,
    B2,
    B3,
    B4,
    B5,
    B6,
    B7⟩
  have e := hfa.symm.trans G20
  cases e
  have b := FunD.bindsA (ps := ["_law_script"]) F20 fun _ _ _ _ _ _ us hl => match us, hl with | [_], _ => rfl
  exact ⟨f20, fun s v => b s [v] rfl, fun base _ _ => ok_law A F20 F19 G19⟩
end K4
open PySem PySem.W PySem.Calls PyProof.Rows
theorem PySem.Challenge.cw_quickways_k04_names_of_rows_holds : PySem.Challenge.rw_quickways_k04_names_of_rows.Holds := by
  w_on; o_law
  refine HandSHeadRun.head_any (r := OpenLaw.row PySem.Challenge.rw_quickways_k04_names_of_rows) (q := view (OpenLaw.row PySem.Challenge.rw_quickways_k04_names_of_rows).prog [22]) (H := K4.hk) (ob := K4.ob) (M := 1780) (loose := K4.loose1 ++ K4.loose2) (d := HandSHeadRun.topDef (OpenLaw.row PySem.Challenge.rw_quickways_k04_names_of_rows).prog 22) (kwd := []) K4.ob_eq
    (by kernel_rfl) (fun s => by kernel_rfl) K4.run (by kernel_rfl) (by kernel_rfl) (by kernel_rfl) (by rfl) (by first | assumption | decide +kernel) (by decide +kernel) ⟨rfl, rfl, rfl, rfl, rfl, by decide +kernel⟩ ?hw ?hc
  case hw => w_witness2
  case hc =>
    refine L2.walk_ofE (l := PySem.Challenge.rw_quickways_k04_names_of_rows) (n := 63) (k := K4.depth + 3) (x := "_law_script") (CX := L2.CX0) rfl (by decide) (by kernel_rfl) ⟨rfl, by decide, by decide⟩ ?F (fun _ _ _ _ z => z)
    intro w mg fa h Y G hmg0
    obtain ⟨K, KX, c⟩ := Y
    have hmg : mg ("law" : PySem.Str) = some (.ref fa) := by
      have e : (HandSHeadRun.topDef (OpenLaw.row PySem.Challenge.rw_quickways_k04_names_of_rows).prog 22).name = ("law" : PySem.Str) := by kernel_rfl
      rw [← e]
      exact hmg0
    obtain ⟨fd, hb, hF⟩ := K4.facts (P := (PySem.Challenge.rw_quickways_k04_names_of_rows).prog) (w := w) KX G hmg c
    exact ⟨K, fd, Ip.spLaw K, KX, hb, fun H a ns hl _ hS => ⟨a, ns, rfl, hS, hl, fun _ => rfl⟩, hF⟩

