import PyProof.Rows.All
import Wide.All
import OpenK.AllK
import Wide.FinOn
import PySem.Challenge.RW_loancheck_k01_faults_of_texts
import HandS.ForMost
import HandS.ForExc
import HandS.ExcInit
import HandS.ExcField
import HandS.FStr
import HandS.Flow
import HandS.Wide
import HandS.TupAny
import HandS.Deep
import HandS.WideMore
import HandS.WideBits
import PyProof.StrBlock2
import HandS.RaiseMore
import PyProof.ReprRoads
import HandS.Conv
import HandS.Replace
import HandS.Defaults
import KE.GoesEnum
import KE.GoesMore
import HandS.Iter
import HandS.Small
import KE.KIsAll
import HandS.ExcIs
import PyProof.FString2
import HandS.HeadHook4
import HandS.HeadNt
import HandS.Head2
import HandS.EndBits
section
set_option Elab.async false
set_option linter.all false
set_option maxRecDepth 100000
namespace Z
open PySem L2

/-! ## data -/
inductive D where
  | non | bl (b : Bool) | int (i : Int) | str (l : List Nat) | tup (ds : List D) | ref (n : Nat)
instance : Inhabited D := ⟨.non⟩
inductive Ob where
  | lst (ds : List D) | frz (ds : List D) | dic (kvs : List (D × D)) | ins (c : Nat) (fs : List (Nat × D))
structure Hs where
  m : List (Nat × Ob)
  n : Nat
def Hs.lk : List (Nat × Ob) → Nat → Option Ob
  | [], _ => none
  | (k, o) :: r, a => if Nat.beq k a then some o else Hs.lk r a
def Hs.pt : List (Nat × Ob) → Nat → Ob → List (Nat × Ob)
  | [], a, o => [(a, o)]
  | (k, x) :: r, a, o => if Nat.beq k a then (k, o) :: r else (k, x) :: Hs.pt r a o
def Hs.get (h : Hs) (a : Nat) : Option Ob := Hs.lk h.m a
def Hs.set (h : Hs) (a : Nat) (o : Ob) : Hs := ⟨Hs.pt h.m a o, h.n⟩
def Hs.new (h : Hs) (o : Ob) : Hs := ⟨(h.n, o) :: h.m, h.n + 1⟩
def Hs.empty : Hs := ⟨[], 0⟩
theorem Hs.lk_pt (a b : Nat) (o : Ob) : ∀ m : List (Nat × Ob), Hs.lk (Hs.pt m a o) b = if b = a then some o else Hs.lk m b
  | [] => by
    simp only [Hs.pt, Hs.lk, Nat.beq_eq_true_eq]
    by_cases e : b = a
    · subst e; simp
    · have : ¬ a = b := fun h => e h.symm
      simp [e, this]
  | (k, x) :: r => by
    have ih := Hs.lk_pt a b o r
    simp only [Hs.pt]
    by_cases hk : Nat.beq k a = true
    · rw [if_pos hk]
      have hk' : k = a := Nat.eq_of_beq_eq_true hk
      subst hk'
      simp only [Hs.lk]
      by_cases e : b = k
      · subst e; simp
      · have : ¬ (Nat.beq k b = true) := fun h => e (Nat.eq_of_beq_eq_true h).symm
        simp [e, this]
    · rw [if_neg hk]
      simp only [Hs.lk]
      by_cases e : Nat.beq k b = true
      · rw [if_pos e, if_pos e]
        have e' : k = b := Nat.eq_of_beq_eq_true e
        subst e'
        have : ¬ k = a := fun h => hk (by subst h; simp)
        rw [if_neg this]
      · rw [if_neg e, if_neg e, ih]
theorem Hs.get_set (h : Hs) (a b : Nat) (o : Ob) : (h.set a o).get b = if b = a then some o else h.get b := Hs.lk_pt a b o h.m
@[simp] theorem Hs.get_set_same (h : Hs) (a : Nat) (o : Ob) : (h.set a o).get a = some o := by rw [Hs.get_set, if_pos rfl]
theorem Hs.get_set_ne (h : Hs) {a b : Nat} (o : Ob) (e : b ≠ a) : (h.set a o).get b = h.get b := by rw [Hs.get_set, if_neg e]
theorem Hs.get_new (h : Hs) (b : Nat) (o : Ob) : (h.new o).get b = if b = h.n then some o else h.get b := by
  show (if Nat.beq h.n b = true then some o else Hs.lk h.m b) = _
  by_cases e : b = h.n
  · subst e; simp
  · have : ¬ (Nat.beq h.n b = true) := fun q => e (Nat.eq_of_beq_eq_true q).symm
    rw [if_neg this, if_neg e]; rfl
@[simp] theorem Hs.get_new_same (h : Hs) (o : Ob) : (h.new o).get h.n = some o := by rw [Hs.get_new, if_pos rfl]
theorem Hs.get_new_ne (h : Hs) {b : Nat} (o : Ob) (e : b ≠ h.n) : (h.new o).get b = h.get b := by rw [Hs.get_new, if_neg e]
@[simp] theorem Hs.set_n (h : Hs) (a : Nat) (o : Ob) : (h.set a o).n = h.n := rfl
@[simp] theorem Hs.new_n (h : Hs) (o : Ob) : (h.new o).n = h.n + 1 := rfl

/-! ## results -/
inductive R (α : Type) where
  | ok (a : α) (h : Hs)
  | exc (c : Nat) (fs : List (Nat × D)) (h : Hs)
  | bad
@[reducible] def Ev := List (Option D)
def R.bind {α β : Type} : R α → (α → Hs → R β) → R β
  | .ok a h, f => f a h
  | .exc c fs h, _ => .exc c fs h
  | .bad, _ => .bad
@[simp] theorem R.bind_ok {α β : Type} (a : α) (h : Hs) (f : α → Hs → R β) : R.bind (.ok a h) f = f a h := rfl
@[simp] theorem R.bind_exc {α β : Type} (c fs h) (f : α → Hs → R β) : R.bind (.exc c fs h) f = .exc c fs h := rfl
@[simp] theorem R.bind_bad {α β : Type} (f : α → Hs → R β) : R.bind .bad f = .bad := rfl
inductive RS where
  | nx (σ : Ev) (h : Hs)
  | rt (d : D) (h : Hs)
  | bk (σ : Ev) (h : Hs)
  | ct (σ : Ev) (h : Hs)
  | exc (c : Nat) (fs : List (Nat × D)) (σ : Ev) (h : Hs)
  | bad

/-! ## how data stand in the model's heap -/
/-- names and classes of the text -/
structure Nm where
  fld : Nat → Str          -- a field's name
  cls : Nat → Addr         -- a class's object
  inj : ∀ i j, fld i = fld j → i = j
abbrev Rho := Nat → Option Addr
mutual
inductive Rep (K : PySem.W.Frag) (ρ : Rho) (H : Hp) : D → V → Prop where
  | non : Rep K ρ H .non .non
  | bl (b : Bool) : Rep K ρ H (.bl b) (.bl b)
  | int (i : Int) : Rep K ρ H (.int i) (.int i)
  | str (l : List Nat) : Rep K ρ H (.str l) (.str ⟨l.toArray⟩)
  | ref {n : Nat} {a : Addr} (e : ρ n = some a) : Rep K ρ H (.ref n) (.ref a)
  | tup {ds : List D} {a : Addr} {vs : List V} (e : SqT K H a vs) (r : Reps K ρ H ds vs) : Rep K ρ H (.tup ds) (.ref a)
inductive Reps (K : PySem.W.Frag) (ρ : Rho) (H : Hp) : List D → List V → Prop where
  | nil : Reps K ρ H [] []
  | cons {d : D} {v : V} {ds : List D} {vs : List V} (a : Rep K ρ H d v) (b : Reps K ρ H ds vs) : Reps K ρ H (d :: ds) (v :: vs)
end
/-- what does not change -/
structure Mon (K : PySem.W.Frag) (ρ : Rho) (H : Hp) (ρ' : Rho) (H' : Hp) : Prop where
  rho : ∀ n a, ρ n = some a → ρ' n = some a
  tup : ∀ a xs, SqT K H a xs → SqT K H' a xs
theorem Mon.refl {K ρ H} : Mon K ρ H ρ H := ⟨fun _ _ e => e, fun _ _ e => e⟩
theorem Mon.trans {K ρ H ρ1 H1 ρ2 H2} (a : Mon K ρ H ρ1 H1) (b : Mon K ρ1 H1 ρ2 H2) : Mon K ρ H ρ2 H2 :=
  ⟨fun n x e => b.rho n x (a.rho n x e), fun x xs e => b.tup x xs (a.tup x xs e)⟩
mutual
theorem Rep.mon {K ρ H ρ' H'} (m : Mon K ρ H ρ' H') : ∀ {d v}, Rep K ρ H d v → Rep K ρ' H' d v
  | _, _, .non => .non
  | _, _, .bl b => .bl b
  | _, _, .int i => .int i
  | _, _, .str l => .str l
  | _, _, .ref e => .ref (m.rho _ _ e)
  | _, _, .tup e r => .tup (m.tup _ _ e) (Reps.mon m r)
theorem Reps.mon {K ρ H ρ' H'} (m : Mon K ρ H ρ' H') : ∀ {ds vs}, Reps K ρ H ds vs → Reps K ρ' H' ds vs
  | _, _, .nil => .nil
  | _, _, .cons a b => .cons (Rep.mon m a) (Reps.mon m b)
end
theorem Reps.length {K ρ H} : ∀ {ds vs}, Reps K ρ H ds vs → ds.length = vs.length
  | _, _, .nil => rfl
  | _, _, .cons _ b => congrArg (· + 1) b.length
theorem Reps.get {K ρ H} : ∀ {ds vs} {i : Nat} {d}, Reps K ρ H ds vs → ds[i]? = some d → ∃ v, vs[i]? = some v ∧ Rep K ρ H d v
  | _, _, 0, _, .cons a _, e => by
    simp only [List.getElem?_cons_zero, Option.some.injEq] at e
    subst e
    exact ⟨_, by simp, a⟩
  | _, _, i + 1, d, .cons _ b, e => by
    obtain ⟨v, h1, h2⟩ := Reps.get (i := i) (d := d) b (by simpa using e)
    exact ⟨v, by simpa using h1, h2⟩
theorem Reps.append {K ρ H} : ∀ {ds vs es us}, Reps K ρ H ds vs → Reps K ρ H es us → Reps K ρ H (ds ++ es) (vs ++ us)
  | _, _, _, _, .nil, s => s
  | _, _, _, _, .cons a b, s => .cons a (Reps.append b s)
theorem Reps.take {K ρ H} : ∀ {ds vs} (n : Nat), Reps K ρ H ds vs → Reps K ρ H (ds.take n) (vs.take n)
  | _, _, 0, _ => .nil
  | _, _, _ + 1, .nil => .nil
  | _, _, n + 1, .cons a b => .cons a (Reps.take n b)
theorem Reps.drop {K ρ H} : ∀ {ds vs} (n : Nat), Reps K ρ H ds vs → Reps K ρ H (ds.drop n) (vs.drop n)
  | _, _, 0, r => r
  | _, _, _ + 1, .nil => .nil
  | _, _, n + 1, .cons _ b => Reps.drop n b
theorem Reps.set {K ρ H d v} (r : Rep K ρ H d v) : ∀ {ds vs} (i : Nat), Reps K ρ H ds vs → Reps K ρ H (ds.set i d) (vs.set i v)
  | _, _, _, .nil => .nil
  | _, _, 0, .cons _ b => .cons r b
  | _, _, i + 1, .cons a b => .cons a (Reps.set r i b)
theorem Reps.dropLast {K ρ H} {ds vs} (r : Reps K ρ H ds vs) : Reps K ρ H ds.dropLast vs.dropLast := by
  rw [List.dropLast_eq_take, List.dropLast_eq_take, ← r.length]
  exact r.take _
theorem Reps.eraseIdx {K ρ H} : ∀ {ds vs} (i : Nat), Reps K ρ H ds vs → Reps K ρ H (ds.eraseIdx i) (vs.eraseIdx i)
  | _, _, _, .nil => .nil
  | _, _, 0, .cons _ b => b
  | _, _, i + 1, .cons a b => .cons a (Reps.eraseIdx i b)
theorem Reps.reverse {K ρ H} : ∀ {ds vs}, Reps K ρ H ds vs → Reps K ρ H ds.reverse vs.reverse
  | _, _, .nil => .nil
  | _, _, .cons a b => by
    rw [List.reverse_cons, List.reverse_cons]
    exact (Reps.reverse b).append (.cons a .nil)
theorem Reps.nil_iff {K ρ H ds vs} (r : Reps K ρ H ds vs) : vs = [] ↔ ds = [] := by
  cases r <;> simp

inductive FldR (N : Nm) (K : PySem.W.Frag) (ρ : Rho) (H : Hp) : List (Nat × D) → List (Str × V) → Prop where
  | nil : FldR N K ρ H [] []
  | cons {i : Nat} {d : D} {v : V} {fs fv} (a : Rep K ρ H d v) (b : FldR N K ρ H fs fv) : FldR N K ρ H ((i, d) :: fs) ((N.fld i, v) :: fv)
theorem FldR.mon {N K ρ H ρ' H'} (m : Mon K ρ H ρ' H') : ∀ {fs fv}, FldR N K ρ H fs fv → FldR N K ρ' H' fs fv
  | _, _, .nil => .nil
  | _, _, .cons a b => .cons (a.mon m) (FldR.mon m b)
def fget : List (Nat × D) → Nat → Option D
  | [], _ => none
  | (k, d) :: r, f => if Nat.beq k f then some d else fget r f
def fput : List (Nat × D) → Nat → D → List (Nat × D)
  | [], f, d => [(f, d)]
  | (k, x) :: r, f, d => if Nat.beq k f then (k, d) :: r else (k, x) :: fput r f d
theorem FldR.length {N K ρ H} : ∀ {fs fv}, FldR N K ρ H fs fv → fs.length = fv.length
  | _, _, .nil => rfl
  | _, _, .cons _ b => congrArg (· + 1) b.length
theorem FldR.get {N K ρ H f d} : ∀ {fs fv}, FldR N K ρ H fs fv → fget fs f = some d → ∃ v, fv.lookup (N.fld f) = some v ∧ Rep K ρ H d v
  | _, _, .nil, e => by simp [fget] at e
  | _, _, .cons (i := i) (d := d') (v := v) (fs := fs) a b, e => by
    simp only [fget] at e
    by_cases h : Nat.beq i f = true
    · rw [if_pos h] at e
      have h' : i = f := Nat.eq_of_beq_eq_true h
      subst h'
      cases e
      exact ⟨v, by simp [List.lookup], a⟩
    · rw [if_neg h] at e
      obtain ⟨w, h1, h2⟩ := FldR.get b e
      refine ⟨w, ?_, h2⟩
      have : (N.fld f == N.fld i) = false := by
        apply beq_eq_false_iff_ne.mpr
        intro q
        exact h (by rw [N.inj _ _ q]; simp)
      simp only [List.lookup, this]
      exact h1
theorem FldR.none {N : Nm} {K ρ H} {m : Str} (hm : ∀ i, N.fld i ≠ m) : ∀ {fs fv}, FldR N K ρ H fs fv → fv.lookup m = Option.none
  | _, _, .nil => rfl
  | _, _, .cons (i := i) a b => by
    have : (m == N.fld i) = false := beq_eq_false_iff_ne.mpr fun q => hm i q.symm
    simp only [List.lookup, this]
    exact FldR.none hm b
theorem FldR.put {N K ρ H f d v} (r : Rep K ρ H d v) : ∀ {fs fv}, FldR N K ρ H fs fv → FldR N K ρ H (fput fs f d) (putF (N.fld f) v fv)
  | _, _, .nil => .cons r .nil
  | _, _, .cons (i := i) (d := d') (v := v') (fs := fs) (fv := fv) a b => by
    simp only [fput, putF]
    by_cases h : Nat.beq i f = true
    · have h' : i = f := Nat.eq_of_beq_eq_true h
      subst h'
      rw [if_pos h, if_pos rfl]
      exact .cons r b
    · have : ¬ N.fld i = N.fld f := fun q => h (by rw [N.inj _ _ q]; simp)
      rw [if_neg h, if_neg this]
      exact .cons a (FldR.put r b)
theorem fput_length (f : Nat) (d : D) : ∀ fs : List (Nat × D), (fput fs f d).length ≤ fs.length + 1
  | [] => by simp [fput]
  | (k, x) :: r => by
    have := fput_length f d r
    simp only [fput]
    split <;> simp <;> omega

/-- a dict's key -/
def kOf : D → Option Key
  | .int i => some (.inl i)
  | .str l => some (.inr ⟨l.toArray⟩)
  | _ => none
inductive DicR (K : PySem.W.Frag) (ρ : Rho) (H : Hp) : List (D × D) → List (Key × V) → Prop where
  | nil : DicR K ρ H [] []
  | cons {k : D} {kk : Key} {d : D} {v : V} {ks kv} (e : kOf k = some kk) (a : Rep K ρ H d v) (b : DicR K ρ H ks kv) : DicR K ρ H ((k, d) :: ks) ((kk, v) :: kv)
theorem DicR.mon {K ρ H ρ' H'} (m : Mon K ρ H ρ' H') : ∀ {fs fv}, DicR K ρ H fs fv → DicR K ρ' H' fs fv
  | _, _, .nil => .nil
  | _, _, .cons e a b => .cons e (a.mon m) (DicR.mon m b)

def ObR (N : Nm) (K : PySem.W.Frag) (ρ : Rho) (H : Hp) (a : Addr) : Ob → Prop
  | .lst ds => ∃ vs, H a = some (.lst vs) ∧ Reps K ρ H ds vs
  | .frz ds => ∃ o vs, H a = some (.frz o (.lst vs)) ∧ Reps K ρ H ds vs
  | .dic kvs => ∃ kv, H a = some (.dK kv) ∧ DicR K ρ H kvs kv
  | .ins c fs => ∃ dx fv, H a = some (.ins (N.cls c) dx fv) ∧ FldR N K ρ H fs fv ∧ fs.length < 900
theorem ObR.some {N K ρ H a o} (x : ObR N K ρ H a o) : ∃ u, H a = some u := by
  cases o with
  | lst => obtain ⟨_, e, _⟩ := x; exact ⟨_, e⟩
  | frz => obtain ⟨_, _, e, _⟩ := x; exact ⟨_, e⟩
  | dic => obtain ⟨_, e, _⟩ := x; exact ⟨_, e⟩
  | ins => obtain ⟨_, _, e, _⟩ := x; exact ⟨_, e⟩
theorem ObR.mon {N K ρ H a o ρ' H'} (m : Mon K ρ H ρ' H') (s : H' a = H a) (x : ObR N K ρ H a o) : ObR N K ρ' H' a o := by
  cases o with
  | lst => obtain ⟨vs, e, r⟩ := x; exact ⟨vs, s.trans e, r.mon m⟩
  | frz => obtain ⟨o, vs, e, r⟩ := x; exact ⟨o, vs, s.trans e, r.mon m⟩
  | dic => obtain ⟨kv, e, r⟩ := x; exact ⟨kv, s.trans e, r.mon m⟩
  | ins => obtain ⟨dx, fv, e, r, l⟩ := x; exact ⟨dx, fv, s.trans e, r.mon m, l⟩
/-- nothing of a tuple, locked or not -/
theorem ObR.notT {N K ρ H a o} (x : ObR N K ρ H a o) {xs} : ¬ Rd H a (.tup xs) := by
  cases o with
  | lst => obtain ⟨vs, e, r⟩ := x; rintro (q | ⟨_, q⟩) <;> rw [e] at q <;> cases q
  | frz => obtain ⟨o, vs, e, r⟩ := x; rintro (q | ⟨_, q⟩) <;> rw [e] at q <;> cases q
  | dic => obtain ⟨kv, e, r⟩ := x; rintro (q | ⟨_, q⟩) <;> rw [e] at q <;> cases q
  | ins => obtain ⟨dx, fv, e, r⟩ := x; rintro (q | ⟨_, q⟩) <;> rw [e] at q <;> cases q

structure RelH (N : Nm) (K : PySem.W.Frag) (ρ : Rho) (h : Hs) (H : Hp) : Prop where
  inj : ∀ m n a, ρ m = some a → ρ n = some a → m = n
  dom : ∀ n o, h.get n = some o → ∃ a, ρ n = some a ∧ ObR N K ρ H a o
  cod : ∀ n a, ρ n = some a → ∃ o, h.get n = some o
  fresh : ∀ n, h.n ≤ n → h.get n = none
theorem RelH.at {N K ρ h H} (x : RelH N K ρ h H) {n a o} (e : ρ n = some a) (g : h.get n = some o) : ObR N K ρ H a o := by
  obtain ⟨b, e', r⟩ := x.dom n o g
  rw [e] at e'
  cases e'
  exact r
structure Grow (N : Nm) (K : PySem.W.Frag) (ρ : Rho) (H : Hp) (ρ' : Rho) (h' : Hs) (H' : Hp) : Prop where
  rel : RelH N K ρ' h' H'
  mon : Mon K ρ H ρ' H'
  frm : ∀ a o, H a = some o → (∀ n, ρ n ≠ some a) → H' a = some o
  new : ∀ n a, ρ' n = some a → ρ n = some a ∨ H a = none
theorem Grow.refl {N K ρ h H} (x : RelH N K ρ h H) : Grow N K ρ H ρ h H := ⟨x, .refl, fun _ _ e _ => e, fun _ _ e => .inl e⟩
theorem Grow.trans {N K ρ H ρ1 h1 H1 ρ2 h2 H2} (a : Grow N K ρ H ρ1 h1 H1) (b : Grow N K ρ1 H1 ρ2 h2 H2) : Grow N K ρ H ρ2 h2 H2 := by
  refine ⟨b.rel, a.mon.trans b.mon, fun x o e n => b.frm x o (a.frm x o e n) fun k q => ?_, fun n x e => ?_⟩
  · rcases a.new k x q with q | q
    · exact n k q
    · rw [e] at q; cases q
  · rcases b.new n x e with q | q
    · exact a.new n x q
    · right
      cases hx : H x with
      | none => rfl
      | some o =>
        by_cases z : ∃ k, ρ k = some x
        · obtain ⟨k, z⟩ := z
          have z1 := a.mon.rho k x z
          obtain ⟨o', g⟩ := a.rel.cod k x z1
          obtain ⟨u, e'⟩ := (a.rel.at z1 g).some
          rw [e'] at q; cases q
        · have := a.frm x o hx fun k q => z ⟨k, q⟩
          rw [this] at q; cases q
/-- a tracked object is written -/
theorem Grow.write {N K ρ h H} (x : RelH N K ρ h H) {n : Nat} {a : Addr} {o o' : Ob} {u : HO} (e : ρ n = some a) (g : h.get n = some o)
    (k : (∀ b xs, SqT K H b xs → SqT K (upd H a u) b xs) → ObR N K ρ (upd H a u) a o') : Grow N K ρ H ρ (h.set n o') (upd H a u) := by
  have ob := x.at e g
  have tp : ∀ b xs, SqT K H b xs → SqT K (upd H a u) b xs := fun b xs q => by
    rcases q with q | q
    · have hb : b ≠ a := fun z => by subst z; exact ob.notT q
      left
      rcases q with q | ⟨o1, q⟩
      · exact .inl ((upd_ne hb).trans q)
      · exact .inr ⟨o1, (upd_ne hb).trans q⟩
    · exact .inr q
  have mon : Mon K ρ H ρ (upd H a u) := ⟨fun _ _ e => e, tp⟩
  refine ⟨⟨x.inj, fun m o2 g2 => ?_, fun m b e2 => ?_, fun m hm => ?_⟩, mon, fun b o2 hb hn => ?_, fun _ _ e => .inl e⟩
  · rw [Hs.get_set] at g2
    by_cases hm : m = n
    · subst hm
      rw [if_pos rfl] at g2
      cases g2
      exact ⟨a, e, k tp⟩
    · rw [if_neg hm] at g2
      obtain ⟨b, e2, r⟩ := x.dom m o2 g2
      have hb : b ≠ a := fun z => hm (x.inj m n a (z ▸ e2) e)
      exact ⟨b, e2, r.mon mon (upd_ne hb)⟩
  · rw [Hs.get_set]
    by_cases hm : m = n
    · exact ⟨o', if_pos hm⟩
    · rw [if_neg hm]; exact x.cod m b e2
  · rw [Hs.get_set]
    have : m ≠ n := fun z => by
      subst z
      rw [x.fresh m hm] at g
      cases g
    rw [if_neg this]
    exact x.fresh m hm
  · exact (upd_ne fun (z : b = a) => hn n (by rw [z]; exact e)).trans hb
/-- a new object -/
def Rho.put (ρ : Rho) (n : Nat) (a : Addr) : Rho := fun m => if m = n then some a else ρ m
theorem tup_new {K : PySem.W.Frag} {H : Hp} {p : Addr} {u : HO} (hp : H p = none) : ∀ b xs, SqT K H b xs → SqT K (upd H p u) b xs := fun b xs q => by
  rcases q with q | q
  · left
    rcases q with q | ⟨o1, q⟩
    · exact .inl ((upd_ne (ne_of_none q hp)).trans q)
    · exact .inr ⟨o1, (upd_ne (ne_of_none q hp)).trans q⟩
  · exact .inr q
theorem RelH.none_new {N K ρ h H} (x : RelH N K ρ h H) {p : Addr} (hp : H p = none) (n : Nat) : ρ n ≠ some p := fun e => by
  obtain ⟨o, g⟩ := x.cod n p e
  obtain ⟨u, q⟩ := (x.at e g).some
  rw [hp] at q; cases q
theorem RelH.rho_new {N K ρ h H} (x : RelH N K ρ h H) : ρ h.n = none := by
  cases e : ρ h.n with
  | none => rfl
  | some a =>
    obtain ⟨o, g⟩ := x.cod _ _ e
    rw [x.fresh _ (Nat.le_refl _)] at g; cases g
theorem Grow.alloc {N K ρ h H} (x : RelH N K ρ h H) {p : Addr} {o : Ob} {u : HO} (hp : H p = none)
    (k : Mon K ρ H (ρ.put h.n p) (upd H p u) → ObR N K (ρ.put h.n p) (upd H p u) p o) : Grow N K ρ H (ρ.put h.n p) (h.new o) (upd H p u) := by
  have hn := x.rho_new
  have mon : Mon K ρ H (ρ.put h.n p) (upd H p u) := ⟨fun n a e => by
    have : n ≠ h.n := fun z => by rw [z, hn] at e; cases e
    show (if n = h.n then _ else _) = _
    rw [if_neg this]; exact e, tup_new hp⟩
  have nb : ∀ {n a}, ρ n = some a → a ≠ p := fun {n a} e z => x.none_new hp n (z ▸ e)
  have old : ∀ {n}, n ≠ h.n → (ρ.put h.n p) n = ρ n := fun {n} e => if_neg e
  have same : (ρ.put h.n p) h.n = some p := if_pos rfl
  refine ⟨⟨fun m n a e1 e2 => ?_, fun m o2 g2 => ?_, fun m b e2 => ?_, fun m hm => ?_⟩, mon, fun b o2 hb _ => (upd_ne (ne_of_none hb hp)).trans hb, fun n a e => ?_⟩
  · by_cases h1 : m = h.n <;> by_cases h2 : n = h.n
    · rw [h1, h2]
    · rw [h1, same] at e1; cases e1; rw [old h2] at e2; exact absurd rfl (nb e2)
    · rw [h2, same] at e2; cases e2; rw [old h1] at e1; exact absurd rfl (nb e1)
    · rw [old h1] at e1; rw [old h2] at e2; exact x.inj m n a e1 e2
  · rw [Hs.get_new] at g2
    by_cases hm : m = h.n
    · subst hm
      rw [if_pos rfl] at g2
      cases g2
      exact ⟨p, same, k mon⟩
    · rw [if_neg hm] at g2
      obtain ⟨b, e2, r⟩ := x.dom m o2 g2
      exact ⟨b, (old hm).trans e2, r.mon mon (upd_ne (nb e2))⟩
  · rw [Hs.get_new]
    by_cases hm : m = h.n
    · exact ⟨o, if_pos hm⟩
    · rw [if_neg hm]; exact x.cod m b ((old hm).symm.trans e2)
  · have h1 : h.n + 1 ≤ m := hm
    rw [Hs.get_new, if_neg (by omega)]
    exact x.fresh m (by omega)
  · by_cases hm : n = h.n
    · subst hm; rw [same] at e; cases e; exact .inr hp
    · rw [old hm] at e; exact .inl e
/-- a new thing of the model alone (a tuple, an instance's dict) -/
theorem Grow.side {N K ρ h H} (x : RelH N K ρ h H) {p : Addr} {u : HO} (hp : H p = none) : Grow N K ρ H ρ h (upd H p u) := by
  have mon : Mon K ρ H ρ (upd H p u) := ⟨fun _ _ e => e, tup_new hp⟩
  refine ⟨⟨x.inj, fun m o g => ?_, x.cod, x.fresh⟩, mon, fun b o2 hb _ => (upd_ne (ne_of_none hb hp)).trans hb, fun _ _ e => .inl e⟩
  obtain ⟨a, e, r⟩ := x.dom m o g
  exact ⟨a, e, r.mon mon (upd_ne fun z => x.none_new hp m (z ▸ e))⟩
theorem Grow.tuple {N K ρ h H} (x : RelH N K ρ h H) {p : Addr} {ds vs} (hp : H p = none) (r : Reps K ρ H ds vs) :
    Grow N K ρ H ρ h (upd H p (.tup vs)) ∧ Rep K ρ (upd H p (.tup vs)) (.tup ds) (.ref p) :=
  have g := Grow.side (u := .tup vs) x hp
  ⟨g, .tup (SqT.of upd_same) (r.mon g.mon)⟩

/-! ## the slots -/
def EnvR (K : PySem.W.Frag) (ρ : Rho) (H : Hp) (σd : Ev) (σ : L2.St) : Prop := σd.length = σ.length ∧ ∀ (i : Nat) (d : D), σd[i]? = some (some d) → ∃ v, σ[i]? = some (some v) ∧ Rep K ρ H d v
theorem EnvR.mon {K ρ H ρ' H'} {σd : Ev} {σ : L2.St} (m : Mon K ρ H ρ' H') (e : EnvR K ρ H σd σ) : EnvR K ρ' H' σd σ :=
  ⟨e.1, fun i d q => let ⟨v, h1, h2⟩ := e.2 i d q; ⟨v, h1, h2.mon m⟩⟩
theorem EnvR.set {K ρ H} {σd : Ev} {σ : L2.St} {d v} (e : EnvR K ρ H σd σ) (i : Nat) (r : Rep K ρ H d v) : EnvR K ρ H (σd.set i (some d)) (σ.set i (some v)) := by
  refine ⟨by rw [List.length_set, List.length_set]; exact e.1, fun j d' q => ?_⟩
  by_cases h : i = j
  · subst h
    by_cases hl : i < σd.length
    · rw [List.getElem?_set_self hl] at q
      cases q
      exact ⟨v, by rw [List.getElem?_set_self (by rw [← e.1]; exact hl)], r⟩
    · rw [List.getElem?_eq_none (by simpa using hl)] at q; cases q
  · rw [List.getElem?_set_ne h] at q ⊢
    exact e.2 j d' q
end Z
end
section
set_option Elab.async false
set_option linter.all false
set_option maxRecDepth 100000
namespace Z
open PySem L2 PyProof.Rows

/-! ## readings by functions -/
section
variable (N : Nm) (K : PySem.W.Frag)
/-- a value that an operation hands on -/
def ResV (ρ : Rho) (H : Hp) : R D → VK → Prop
  | .ok d h', Q => ∀ ρ' H' v, Grow N K ρ H ρ' h' H' → Rep K ρ' H' d v → Q v H'
  | _, _ => False
def ResE (W : WX) (ρ : Rho) (H : Hp) (σ : L2.St) : R D → VK → Prop
  | .ok d h', Q => ∀ ρ' H' v, Grow N K ρ H ρ' h' H' → Rep K ρ' H' d v → Q v H'
  | .exc c fs h', _ => ∀ ρ' H' dd fv, Grow N K ρ H ρ' h' H' → H' dd = some (.xd fv) → FldR N K ρ' H' fs fv → W (.ref (N.cls c)) (some dd) σ H'
  | .bad, _ => False
def ResT (W : WX) (ρ : Rho) (H : Hp) (σ : L2.St) : R Bool → (Bool → Hp → Prop) → Prop
  | .ok b h', Q => ∀ ρ' H', Grow N K ρ H ρ' h' H' → Q b H'
  | .exc c fs h', _ => ∀ ρ' H' dd fv, Grow N K ρ H ρ' h' H' → H' dd = some (.xd fv) → FldR N K ρ' H' fs fv → W (.ref (N.cls c)) (some dd) σ H'
  | .bad, _ => False
def ResA (W : WX) (ρ : Rho) (H : Hp) (σ : L2.St) : R (List D) → (List V → Hp → Prop) → Prop
  | .ok ds h', Q => ∀ ρ' H' vs, Grow N K ρ H ρ' h' H' → Reps K ρ' H' ds vs → Q vs H'
  | .exc c fs h', _ => ∀ ρ' H' dd fv, Grow N K ρ H ρ' h' H' → H' dd = some (.xd fv) → FldR N K ρ' H' fs fv → W (.ref (N.cls c)) (some dd) σ H'
  | .bad, _ => False
abbrev SE := Ev → Hs → R D
abbrev ST := Ev → Hs → R Bool
abbrev SA := Ev → Hs → R (List D)
def tE (W : WX) (f : SE) : TE := fun σ H Q => ∃ ρ h σd, RelH N K ρ h H ∧ EnvR K ρ H σd σ ∧ ResE N K W ρ H σ (f σd h) Q
def tT (W : WX) (f : ST) : TT := fun σ H Q => ∃ ρ h σd, RelH N K ρ h H ∧ EnvR K ρ H σd σ ∧ ResT N K W ρ H σ (f σd h) Q
def tA (W : WX) (f : SA) : TA := fun σ H Q => ∃ ρ h σd, RelH N K ρ h H ∧ EnvR K ρ H σd σ ∧ ResA N K W ρ H σ (f σd h) Q
end
section
variable {N : Nm} {K : PySem.W.Frag} {W : WX} {ρ : Rho} {h : Hs} {H : Hp} {σ : L2.St} {σd : Ev} {Q : VK} {d e : D} {x y : V}
theorem ResE.shift {ρ1 h1 H1 r} (g : Grow N K ρ H ρ1 h1 H1) (q : ResE N K W ρ H σ r Q) : ResE N K W ρ1 H1 σ r Q := by
  cases r with
  | ok => exact fun _ _ _ g2 rp => q _ _ _ (g.trans g2) rp
  | exc => exact fun _ _ _ _ g2 a b => q _ _ _ _ (g.trans g2) a b
  | bad => exact q
theorem ResT.shift {ρ1 h1 H1 r Q} (g : Grow N K ρ H ρ1 h1 H1) (q : ResT N K W ρ H σ r Q) : ResT N K W ρ1 H1 σ r Q := by
  cases r with
  | ok => exact fun _ _ g2 => q _ _ (g.trans g2)
  | exc => exact fun _ _ _ _ g2 a b => q _ _ _ _ (g.trans g2) a b
  | bad => exact q
theorem ResA.shift {ρ1 h1 H1 r Q} (g : Grow N K ρ H ρ1 h1 H1) (q : ResA N K W ρ H σ r Q) : ResA N K W ρ1 H1 σ r Q := by
  cases r with
  | ok => exact fun _ _ _ g2 rp => q _ _ _ (g.trans g2) rp
  | exc => exact fun _ _ _ _ g2 a b => q _ _ _ _ (g.trans g2) a b
  | bad => exact q
theorem ResE.imp {r Q'} (k : ∀ v H, Q v H → Q' v H) (q : ResE N K W ρ H σ r Q) : ResE N K W ρ H σ r Q' := by
  cases r with
  | ok => exact fun _ _ _ g rp => k _ _ (q _ _ _ g rp)
  | exc => exact q
  | bad => exact q
/-- one after the other -/
theorem ResE.bindE {r : R D} {f : D → Hs → R D} {Q' : VK} (q : ResE N K W ρ H σ (r.bind f) Q)
    (k : ∀ d1 h1, r = .ok d1 h1 → ∀ ρ' H' v, Grow N K ρ H ρ' h1 H' → Rep K ρ' H' d1 v → ResE N K W ρ' H' σ (f d1 h1) Q → Q' v H') : ResE N K W ρ H σ r Q' := by
  cases r with
  | ok a h1 => exact fun ρ' H' v g rp => k a h1 rfl ρ' H' v g rp (q.shift g)
  | exc => exact q
  | bad => exact q
theorem ResT.bindT {r : R D} {f : D → Hs → R Bool} {Q : Bool → Hp → Prop} {Q' : VK} (q : ResT N K W ρ H σ (r.bind f) Q)
    (k : ∀ d1 h1, r = .ok d1 h1 → ∀ ρ' H' v, Grow N K ρ H ρ' h1 H' → Rep K ρ' H' d1 v → ResT N K W ρ' H' σ (f d1 h1) Q → Q' v H') : ResE N K W ρ H σ r Q' := by
  cases r with
  | ok a h1 => exact fun ρ' H' v g rp => k a h1 rfl ρ' H' v g rp (q.shift g)
  | exc => exact q
  | bad => exact q
theorem ResT.bindTT {r : R Bool} {f : Bool → Hs → R Bool} {Q Q' : Bool → Hp → Prop} (q : ResT N K W ρ H σ (r.bind f) Q)
    (k : ∀ d1 h1, r = .ok d1 h1 → ∀ ρ' H', Grow N K ρ H ρ' h1 H' → ResT N K W ρ' H' σ (f d1 h1) Q → Q' d1 H') : ResT N K W ρ H σ r Q' := by
  cases r with
  | ok a h1 => exact fun ρ' H' g => k a h1 rfl ρ' H' g (q.shift g)
  | exc => exact q
  | bad => exact q
theorem ResE.bindET {r : R Bool} {f : Bool → Hs → R D} {Q' : Bool → Hp → Prop} (q : ResE N K W ρ H σ (r.bind f) Q)
    (k : ∀ d1 h1, r = .ok d1 h1 → ∀ ρ' H', Grow N K ρ H ρ' h1 H' → ResE N K W ρ' H' σ (f d1 h1) Q → Q' d1 H') : ResT N K W ρ H σ r Q' := by
  cases r with
  | ok a h1 => exact fun ρ' H' g => k a h1 rfl ρ' H' g (q.shift g)
  | exc => exact q
  | bad => exact q
theorem ResE.bindEA {r : R (List D)} {f : List D → Hs → R D} {Q' : List V → Hp → Prop} (q : ResE N K W ρ H σ (r.bind f) Q)
    (k : ∀ d1 h1, r = .ok d1 h1 → ∀ ρ' H' v, Grow N K ρ H ρ' h1 H' → Reps K ρ' H' d1 v → ResE N K W ρ' H' σ (f d1 h1) Q → Q' v H') : ResA N K W ρ H σ r Q' := by
  cases r with
  | ok a h1 => exact fun ρ' H' v g rp => k a h1 rfl ρ' H' v g rp (q.shift g)
  | exc => exact q
  | bad => exact q
theorem ResA.bindAE {r : R D} {f : D → Hs → R (List D)} {Q : List V → Hp → Prop} {Q' : VK} (q : ResA N K W ρ H σ (r.bind f) Q)
    (k : ∀ d1 h1, r = .ok d1 h1 → ∀ ρ' H' v, Grow N K ρ H ρ' h1 H' → Rep K ρ' H' d1 v → ResA N K W ρ' H' σ (f d1 h1) Q → Q' v H') : ResE N K W ρ H σ r Q' := by
  cases r with
  | ok a h1 => exact fun ρ' H' v g rp => k a h1 rfl ρ' H' v g rp (q.shift g)
  | exc => exact q
  | bad => exact q
theorem ResA.bindAA {r : R (List D)} {f : List D → Hs → R (List D)} {Q Q' : List V → Hp → Prop} (q : ResA N K W ρ H σ (r.bind f) Q)
    (k : ∀ d1 h1, r = .ok d1 h1 → ∀ ρ' H' v, Grow N K ρ H ρ' h1 H' → Reps K ρ' H' d1 v → ResA N K W ρ' H' σ (f d1 h1) Q → Q' v H') : ResA N K W ρ H σ r Q' := by
  cases r with
  | ok a h1 => exact fun ρ' H' v g rp => k a h1 rfl ρ' H' v g rp (q.shift g)
  | exc => exact q
  | bad => exact q
theorem ResV.ofE {r : R D} (q : ResE N K (fun _ _ _ _ => False) ρ H σ r Q) (k : ∀ c fs h', r ≠ .exc c fs h') : ResV N K ρ H r Q := by
  cases r with
  | ok => exact q
  | exc c fs h' => exact absurd rfl (k c fs h')
  | bad => exact q
/-- an operation that raises nothing -/
def quiet : R D → Prop
  | .exc _ _ _ => False
  | _ => True
theorem ResE.toV {r : R D} (n : quiet r) (q : ResE N K W ρ H σ r Q) : ResV N K ρ H r Q := by
  cases r with
  | ok => exact q
  | exc => exact n.elim
  | bad => exact q
theorem ResV.ok_here {d : D} (rel : RelH N K ρ h H) (q : ResV N K ρ H (.ok d h) Q) {v : V} (r : Rep K ρ H d v) : Q v H := q ρ H v (.refl rel) r
end
theorem PE.imp {X : Cx} {e : Expr} {t t' : TE} (k : ∀ σ H Q, t' σ H Q → t σ H Q) (p : PE X e t) : PE X e t' := ⟨fun pins s σ H Q I h => p.run pins s σ H Q I (k σ H Q h)⟩
theorem PT.imp {X : Cx} {e : Expr} {t t' : TT} (k : ∀ σ H Q, t' σ H Q → t σ H Q) (p : PT X e t) : PT X e t' := ⟨fun pins s σ H Q I h => p.run pins s σ H Q I (k σ H Q h)⟩
theorem PW.imp {X : Cx} {e : Expr} {t t' : TT} (k : ∀ σ H Q, t' σ H Q → t σ H Q) (p : PW X e t) : PW X e t' := ⟨fun whole pins s σ H Q I h => p.run whole pins s σ H Q I (k σ H Q h)⟩
theorem PA.imp {X : Cx} {es : List Expr} {t t' : TA} (k : ∀ σ H Q, t' σ H Q → t σ H Q) (p : PA X es t) : PA X es t' := ⟨fun pos pins s σ H Q I h => p.run pos pins s σ H Q I (k σ H Q h)⟩
theorem PS.imp {X : Cx} {e : Stmt} {t t' : TS} (k : ∀ D σ H, t' D σ H → t D σ H) (p : PS X e t) : PS X e t' := ⟨fun pins s σ H D I h => p.run pins s σ H D I (k D σ H h)⟩
theorem PSs.imp {X : Cx} {e : List Stmt} {t t' : TS} (k : ∀ D σ H, t' D σ H → t D σ H) (p : PSs X e t) : PSs X e t' := ⟨fun pins s σ H D I h => p.run pins s σ H D I (k D σ H h)⟩

/-! ## operations by values -/
def r2 (N : Nm) (K : PySem.W.Frag) (g : D → D → Hs → R D) : R2 := fun x y H Q => ∃ ρ h d e, RelH N K ρ h H ∧ Rep K ρ H d x ∧ Rep K ρ H e y ∧ ResV N K ρ H (g d e h) Q
theorem OpR.imp {X : Cx} {f : Value → Value → Sem Value} {r r' : R2} (k : ∀ x y H Q, r' x y H Q → r x y H Q) (p : OpR X f r) : OpR X f r' :=
  fun pins s σ H x y v u Q I rx ry h => p pins s σ H x y v u Q I rx ry (k _ _ _ _ h)

abbrev big : Nat := 1000000
theorem big_line {n : Nat} (h : n ≤ big) : n ≤ sizeLine := Nat.le_trans h (by decide)
theorem big_lt {n : Nat} (h : n < big) : n < sizeLine := Nat.lt_of_lt_of_le h (by decide)
inductive Bop where | add | sub | mul | fdiv | mod | pow
def binop : Bop → D → D → Hs → R D
  | .add, .int i, .int j, h => .ok (.int (i + j)) h
  | .add, .int i, .bl k, h => .ok (.int (i + b2i k)) h
  | .add, .str a, .str b, h => if a.length + b.length ≤ big then .ok (.str (a ++ b)) h else .bad
  | .add, .tup a, .tup b, h => if a.length + b.length ≤ big then .ok (.tup (a ++ b)) h else .bad
  | .add, .ref a, .ref b, h => match h.get a, h.get b with
    | some (.lst x), some (.lst y) => if x.length + y.length ≤ big then .ok (.ref h.n) (h.new (.lst (x ++ y))) else .bad
    | _, _ => .bad
  | .sub, .int i, .int j, h => .ok (.int (i - j)) h
  | .mul, .int i, .int j, h => if i.natAbs.log2 < 60 ∨ j.natAbs.log2 < 60 ∨ i.natAbs.log2 + j.natAbs.log2 < 1000000 then .ok (.int (i * j)) h else .bad
  | .mul, .str a, .int j, h => if a.length * j.toNat ≤ big ∧ -1000000000 ≤ j ∧ j ≤ 1000000000 then .ok (.str (List.replicate j.toNat a).flatten) h else .bad
  | .mul, .ref a, .int j, h => match h.get a with
    | some (.lst x) => if x.length * j.toNat ≤ big ∧ -(2 ^ 63) ≤ j ∧ j < 2 ^ 63 then .ok (.ref h.n) (h.new (.lst (List.replicate j.toNat x).flatten)) else .bad
    | _ => .bad
  | .fdiv, .int i, .int j, h => if 0 < j ∧ j.natAbs.log2 < 9000 then .ok (.int (i / j)) h else .bad
  | .mod, .int i, .int j, h => if 0 < j then .ok (.int (i % j)) h else .bad
  | .pow, .int i, .int j, h => if 0 ≤ j ∧ j ≤ 1000000 ∧ i.natAbs < 2 ^ 64 then .ok (.int (i ^ j.toNat)) h else .bad
  | _, _, _, _ => .bad
def Bop.op : Bop → Operator
  | .add => .Add | .sub => .Sub | .mul => .Mult | .fdiv => .FloorDiv | .mod => .Mod | .pow => .Pow
section
variable {N : Nm} {X : Cx} {ρ : Rho} {h : Hs} {H : Hp} {Q : VK} {d e : D} {x y : V}
theorem Rep.int_inv {K i} (r : Rep K ρ H (.int i) x) : x = .int i := by cases r; rfl
theorem Rep.str_inv {K l} (r : Rep K ρ H (.str l) x) : x = .str ⟨l.toArray⟩ := by cases r; rfl
theorem Rep.bl_inv {K b} (r : Rep K ρ H (.bl b) x) : x = .bl b := by cases r; rfl
theorem Rep.non_inv {K} (r : Rep K ρ H .non x) : x = .non := by cases r; rfl
theorem Rep.ref_inv {K n} (r : Rep K ρ H (.ref n) x) : ∃ a, x = .ref a ∧ ρ n = some a := by cases r with | ref e => exact ⟨_, rfl, e⟩
theorem Rep.tup_inv {K ds} (r : Rep K ρ H (.tup ds) x) : ∃ a vs, x = .ref a ∧ SqT K H a vs ∧ Reps K ρ H ds vs := by cases r with | tup e r => exact ⟨_, _, rfl, e, r⟩
theorem ResV.tup {K ds vs p} (rel : RelH N K ρ h H) (q : ResV N K ρ H (.ok (.tup ds) h) Q) (r : Reps K ρ H ds vs) (hp : H p = none) : Q (.ref p) (upd H p (.tup vs)) :=
  let ⟨g, rp⟩ := Grow.tuple rel hp r
  q _ _ _ g rp
theorem ResV.lst {K ds vs p} (rel : RelH N K ρ h H) (q : ResV N K ρ H (.ok (.ref h.n) (h.new (.lst ds))) Q) (r : Reps K ρ H ds vs) (hp : H p = none) : Q (.ref p) (upd H p (.lst vs)) :=
  have g := Grow.alloc (o := .lst ds) (u := .lst vs) rel hp fun m => ⟨vs, upd_same, r.mon m⟩
  q _ _ _ g (.ref (if_pos rfl))
theorem str_app (a b : List Nat) : (⟨a.toArray⟩ : Str) ++ ⟨b.toArray⟩ = ⟨(a ++ b).toArray⟩ := by
  show Str.append _ _ = _
  unfold Str.append
  simp
theorem Reps.flat_rep {K ds vs} (r : Reps K ρ H ds vs) : ∀ n, Reps K ρ H (List.replicate n ds).flatten (List.replicate n vs).flatten
  | 0 => .nil
  | n + 1 => by
    rw [List.replicate_succ, List.replicate_succ, List.flatten_cons, List.flatten_cons]
    exact r.append (Reps.flat_rep r n)
theorem fold_rep (a : List Nat) : ∀ (n : Nat) (acc : Array Nat), (List.replicate n a.toArray).foldl (· ++ ·) acc = (acc.toList ++ (List.replicate n a).flatten).toArray
  | 0, acc => by simp
  | n + 1, acc => by
    rw [List.replicate_succ, List.replicate_succ, List.foldl_cons, fold_rep a n, List.flatten_cons]
    simp
theorem txt_mul (a : List Nat) (j : Int) : Txt.mul ⟨a.toArray⟩ j = ⟨(List.replicate j.toNat a).flatten.toArray⟩ := by
  unfold Txt.mul
  by_cases h1 : j < 1
  · rw [if_pos h1]
    have : j.toNat = 0 := by omega
    rw [this]; rfl
  · rw [if_neg h1]
    split
    · rename_i hc
      simp only [Bool.or_eq_true, beq_iff_eq] at hc
      rcases hc with hc | hc
      · subst hc
        show (⟨a.toArray⟩ : Str) = ⟨(List.replicate 1 a).flatten.toArray⟩
        simp
      · have : a = [] := by
          have : a.toArray.size = 0 := hc
          simpa using this
        subst this
        simp
    · rw [fold_rep]
      simp
theorem mulok (a : List Nat) {j : Int} (hz : a.length * j.toNat ≤ big) (hlo : -1000000000 ≤ j) (hhi : j ≤ 1000000000) : MulOk ⟨a.toArray⟩ j := by
  have hlen : (⟨a.toArray⟩ : Str).length = a.length := by show a.toArray.size = _; simp
  refine ⟨?_, fun h1 h2 => ?_, fun h1 h2 => ?_⟩
  · have e1 : ¬ j < -(2 ^ 63 : Int) := by omega
    have e2 : ¬ j ≥ 2 ^ 63 := by omega
    simp only [e1, e2, decide_false, Bool.or_self]
  · rw [hlen]
    have hz' : (a.length : Int) * j ≤ 1000000 := by
      have e : (j.toNat : Int) = j := Int.toNat_of_nonneg (by omega)
      have : ((a.length * j.toNat : Nat) : Int) ≤ (big : Nat) := Int.ofNat_le.mpr hz
      rw [Int.natCast_mul, e] at this
      exact this
    have := Int.le_ediv_of_mul_le (a := (a.length : Int)) (b := 2 ^ 63 - 1) (c := j) (by omega) (by omega)
    omega
  · rw [hlen]
    have : ∀ n : Nat, n ≤ big → PySem.Builtin.Str.tooLong n = false := fun n hn => by
      unfold PySem.Builtin.Str.tooLong
      exact decide_eq_false (by have := big_line hn; omega)
    exact this _ hz
def MulW (i j : Int) : Prop := i.natAbs.log2 < 60 ∨ j.natAbs.log2 < 60 ∨ i.natAbs.log2 + j.natAbs.log2 < 1000000
theorem bits_log (x : Int) : Builtin.Int.intBits x ≤ x.natAbs.log2 + 1 := by
  unfold Builtin.Int.intBits
  split <;> omega
theorem MulW.ok {i j : Int} (h : MulW i j) : IntMulOk i j := by
  rcases h with h | h | h
  · exact IntMulOk.of_left (by have := bits_log i; omega)
  · exact IntMulOk.of_right (by have := bits_log j; omega)
  · exact CMulW.ok h
theorem op_mulA {X : Cx} : OpR X (binaryOp .Mult) (rI MulW fun i j => .int (i * j)) := opI fun _ _ _ _ _ _ _ hc q => mul_int q hc.ok
theorem op_bin (o : Bop) : OpR X (binaryOp o.op) (r2 N X.K (binop o)) := by
  intro pins s σ H x y v u Q I rx ry ⟨ρ, h, d, e, rel, rd, re, q⟩
  have fb : ∀ {p : Prop}, ResV N X.K ρ H .bad Q → p := fun z => False.elim z
  cases o with
  | add =>
    cases d <;> cases e <;> try exact False.elim q
    · cases rd.int_inv; cases re.bl_inv
      exact op_add_ib pins s σ H _ _ v u Q I rx ry ⟨_, _, rfl, rfl, q.ok_here rel (.int _)⟩
    · cases rd.int_inv; cases re.int_inv
      exact op_add pins s σ H _ _ v u Q I rx ry ⟨_, _, rfl, rfl, q.ok_here rel (.int _)⟩
    · cases rd.str_inv; cases re.str_inv
      rename_i a b
      simp only [binop] at q
      split at q
      · rename_i hz
        refine op_add_str pins s σ H _ _ v u Q I rx ry ⟨_, _, rfl, rfl, ?_, ?_⟩
        · show a.toArray.size + b.toArray.size ≤ _
          simp only [List.size_toArray]
          exact big_line hz
        · rw [str_app]
          exact q.ok_here rel (.str _)
      · exact False.elim q
    · obtain ⟨a, vs, rfl, ta, ra⟩ := rd.tup_inv
      obtain ⟨b, us, rfl, tb, rb⟩ := re.tup_inv
      rename_i ds es
      simp only [binop] at q
      split at q
      · rename_i hz
        have e1 := ra.length
        have e2 := rb.length
        refine op_catA pins s σ H _ _ v u Q I rx ry ⟨a, b, vs, us, rfl, rfl, ta, tb, ?_, fun z => ?_, fun _ z => ?_, fun _ _ p hp => ?_⟩
        · rw [← e1, ← e2]; exact big_line hz
        · have z' := ra.nil_iff.mp z
          subst z'
          rw [List.nil_append] at q
          exact q.ok_here rel re
        · have z' := rb.nil_iff.mp z
          subst z'
          rw [List.append_nil] at q
          exact q.ok_here rel rd
        · exact q.tup rel (ra.append rb) hp
      · exact False.elim q
    · obtain ⟨a, rfl, ea⟩ := rd.ref_inv
      obtain ⟨b, rfl, eb⟩ := re.ref_inv
      simp only [binop] at q
      split at q
      · rename_i x y h1 h2
        split at q
        · rename_i hz
          obtain ⟨vs, c1, ra⟩ := rel.at ea h1
          obtain ⟨us, c2, rb⟩ := rel.at eb h2
          refine op_cat pins s σ H _ _ v u Q I rx ry ⟨a, b, vs, us, rfl, rfl, c1, c2, ?_, fun p hp => ?_⟩
          · rw [← ra.length, ← rb.length]; exact big_line hz
          · exact q.lst rel (ra.append rb) hp
        · exact False.elim q
      · exact False.elim q
  | sub =>
    cases d <;> cases e <;> try exact False.elim q
    cases rd.int_inv; cases re.int_inv
    exact op_sub pins s σ H _ _ v u Q I rx ry ⟨_, _, rfl, rfl, q.ok_here rel (.int _)⟩
  | mul =>
    cases d <;> cases e <;> try exact False.elim q
    · cases rd.int_inv; cases re.int_inv
      simp only [binop] at q
      split at q
      · rename_i hz
        exact op_mulA pins s σ H _ _ v u Q I rx ry ⟨_, _, rfl, rfl, hz, q.ok_here rel (.int _)⟩
      · exact False.elim q
    · cases rd.str_inv; cases re.int_inv
      rename_i a j
      simp only [binop] at q
      split at q
      · rename_i hz
        obtain ⟨hz, hlo, hhi⟩ := hz
        obtain ⟨t, rfl⟩ := rx
        obtain ⟨t', rfl⟩ := ry
        have hl : sizeLine = 16777216 := sizeLine_eq
        have hlen : (⟨a.toArray⟩ : Str).length = a.length := by show a.toArray.size = _; simp
        have key := txt_mul a j
        refine PySem.SB.mul (n := j) (mulok a hz hlo hhi) fun t' k => ?_
        rw [key]
        exact ⟨.str _, H, I.tok _, ⟨_, rfl⟩, q.ok_here rel (.str _)⟩
      · exact False.elim q
    · obtain ⟨a, rfl, ea⟩ := rd.ref_inv
      cases re.int_inv
      simp only [binop] at q
      split at q
      · rename_i x h1
        split at q
        · rename_i hz
          obtain ⟨hz, hlo, hhi⟩ := hz
          obtain ⟨vs, c1, ra⟩ := rel.at ea h1
          refine op_rep pins s σ H _ _ v u Q I rx ry ⟨a, _, vs, rfl, rfl, c1, hlo, hhi, ?_, fun p hp => ?_⟩
          · rw [← ra.length]; exact big_line hz
          · exact q.lst rel (ra.flat_rep _) hp
        · exact False.elim q
      · exact False.elim q
  | fdiv =>
    cases d <;> cases e <;> try exact False.elim q
    cases rd.int_inv; cases re.int_inv
    simp only [binop] at q
    split at q
    · rename_i hz
      exact op_fdivW pins s σ H _ _ v u Q I rx ry ⟨_, _, rfl, rfl, hz, q.ok_here rel (.int _)⟩
    · exact False.elim q
  | mod =>
    cases d <;> cases e <;> try exact False.elim q
    cases rd.int_inv; cases re.int_inv
    simp only [binop] at q
    split at q
    · rename_i hz
      exact op_mod pins s σ H _ _ v u Q I rx ry ⟨_, _, rfl, rfl, hz, q.ok_here rel (.int _)⟩
    · exact False.elim q
  | pow =>
    cases d <;> cases e <;> try exact False.elim q
    cases rd.int_inv; cases re.int_inv
    simp only [binop] at q
    split at q
    · rename_i hz
      exact op_pow pins s σ H _ _ v u Q I rx ry ⟨_, _, rfl, rfl, hz, q.ok_here rel (.int _)⟩
    · exact False.elim q
end
end Z
end
section
set_option Elab.async false
set_option linter.all false
set_option maxRecDepth 100000
namespace Z
open PySem L2 PyProof.Rows

/-! ## comparisons -/
mutual
def pd : D → Option PyData
  | .non => some .none
  | .bl b => some (.bool b)
  | .int i => some (.int i)
  | .str l => some (.str ⟨l.toArray⟩)
  | .tup ds => (pds ds).map .tuple
  | .ref _ => none
def pds : List D → Option (List PyData)
  | [] => some []
  | d :: r => match pd d, pds r with
    | some a, some b => some (a :: b)
    | _, _ => none
end
def pdh (h : Hs) : D → Option PyData
  | .ref n => match h.get n with
    | some (.lst ds) => (pds ds).map .list
    | some (.frz ds) => (pds ds).map .list
    | _ => none
  | d => pd d
mutual
theorem pd_dp {K ρ H} : ∀ {d : D} {v : V} {p : PyData}, Rep K ρ H d v → pd d = some p → Dp K H v p
  | .non, _, _, r, e => by cases r.non_inv; simp only [pd, Option.some.injEq] at e; subst e; exact .non
  | .bl b, _, _, r, e => by cases r.bl_inv; simp only [pd, Option.some.injEq] at e; subst e; exact .bl b
  | .int i, _, _, r, e => by cases r.int_inv; simp only [pd, Option.some.injEq] at e; subst e; exact .int i
  | .str l, _, _, r, e => by cases r.str_inv; simp only [pd, Option.some.injEq] at e; subst e; exact .str _
  | .tup ds, _, _, r, e => by
    obtain ⟨a, vs, rfl, ta, ra⟩ := r.tup_inv
    simp only [pd, Option.map_eq_some_iff] at e
    obtain ⟨ps, e, rfl⟩ := e
    exact .tup ta (pds_dp ra e)
  | .ref _, _, _, _, e => by simp [pd] at e
theorem pds_dp {K ρ H} : ∀ {ds : List D} {vs : List V} {ps : List PyData}, Reps K ρ H ds vs → pds ds = some ps → DpAll K H vs ps
  | [], _, _, r, e => by cases r; simp only [pds, Option.some.injEq] at e; subst e; exact .nil
  | d :: ds, _, _, r, e => by
    cases r with
    | cons a b =>
      simp only [pds] at e
      split at e
      · rename_i x y h1 h2
        cases e
        exact .cons (pd_dp a h1) (pds_dp b h2)
      · cases e
end
theorem pdh_dp {N K ρ h H} (rel : RelH N K ρ h H) {d v p} (r : Rep K ρ H d v) (e : pdh h d = some p) : Dp K H v p := by
  cases d with
  | ref n =>
    obtain ⟨a, rfl, ea⟩ := r.ref_inv
    simp only [pdh] at e
    split at e
    · rename_i ds g
      obtain ⟨vs, c, ra⟩ := rel.at ea g
      simp only [Option.map_eq_some_iff] at e
      obtain ⟨ps, e, rfl⟩ := e
      exact .lst (SqL.of c) (pds_dp ra e)
    · rename_i ds g
      obtain ⟨o, vs, c, ra⟩ := rel.at ea g
      simp only [Option.map_eq_some_iff] at e
      obtain ⟨ps, e, rfl⟩ := e
      exact .lst (.inl (.inr ⟨o, c⟩)) (pds_dp ra e)
    · cases e
  | _ => exact pd_dp r e
def deq (h : Hs) : D → D → Option Bool
  | .non, .non => some true
  | .int i, .int j => some (decide (i = j))
  | .str a, .str b => some (decide (a = b))
  | .bl a, .bl b => some (a == b)
  | .non, .int _ | .int _, .non | .non, .bl _ | .bl _, .non | .non, .str _ | .str _, .non => some false
  | .int _, .str _ | .str _, .int _ | .bl _, .str _ | .str _, .bl _ => some false
  | d, e => match pdh h d, pdh h e with
    | some x, some y => if SeqAt.shaped x && SeqAt.shaped y then some (PyData.eqv x y) else none
    | _, _ => none
def flatD : D → Bool
  | .non | .bl _ | .int _ | .str _ => true
  | _ => false
def eqF : D → D → Bool
  | .non, .non => true
  | .bl a, .bl b => a == b
  | .bl a, .int b => (if a then 1 else 0) == b
  | .int a, .bl b => a == (if b then 1 else 0)
  | .int a, .int b => a == b
  | .str a, .str b => decide (a = b)
  | _, _ => false
def kvOf (h : Hs) : D → Option (List (D × D))
  | .ref n => match h.get n with
    | some (.dic kvs) => some kvs
    | _ => none
  | _ => none
def keq : D → D → Bool
  | .int i, .int j => decide (i = j)
  | .str a, .str b => decide (a = b)
  | _, _ => false
def dget : List (D × D) → D → Option D
  | [], _ => none
  | (k, v) :: r, x => if keq k x then some v else dget r x
/-- what may be looked through by `in` -/
def seqOf (h : Hs) : D → Option (List D)
  | .tup ds => some ds
  | .ref n => match h.get n with
    | some (.lst ds) => some ds
    | some (.frz ds) => some ds
    | _ => none
  | _ => none
def din (h : Hs) (d e : D) : Option Bool :=
  match d, e with
  | .str [c], .str z => some (decide (c ∈ z))
  | .str a, .str z => some (!(Builtin.Str.occurrences ⟨z.toArray⟩ ⟨a.toArray⟩ 0 (⟨z.toArray⟩ : Str).length 1).isEmpty)
  | d, e => match kvOf h e with
    | some kvs => if (kOf d).isSome then some (dget kvs d).isSome else none
    | none => match seqOf h e with
      | some ds => if flatD d && ds.all flatD then some (ds.any fun y => eqF y d) else
          match pd d, pdh h e with
          | some x, some (.list ys) => if SeqAt.shaped x && SeqAt.shaped (.list ys) then some (ys.any fun z => PyData.eqv z x) else none
          | _, _ => none
      | none => none
inductive Cop where | eq | ne | lt | le | gt | ge | isin | notin | is_ | isnot
def Cop.op : Cop → CmpOp
  | .eq => .Eq | .ne => .NotEq | .lt => .Lt | .le => .LtE | .gt => .Gt | .ge => .GtE | .isin => .In | .notin => .NotIn | .is_ => .Is | .isnot => .IsNot
def isNon : D → Bool
  | .non => true
  | _ => false
def cmpv (h : Hs) : Cop → D → D → Option Bool
  | .eq, d, e => deq h d e
  | .ne, d, e => (deq h d e).map (!·)
  | .lt, .int i, .int j => some (decide (i < j))
  | .le, .int i, .int j => some (decide (i ≤ j))
  | .gt, .int i, .int j => some (decide (j < i))
  | .ge, .int i, .int j => some (decide (j ≤ i))
  | .lt, .str a, .str b => some (decide (a < b))
  | .le, .str a, .str b => some (!decide (b < a))
  | .gt, .str a, .str b => some (decide (b < a))
  | .ge, .str a, .str b => some (!decide (a < b))
  | .isin, d, e => din h d e
  | .notin, d, e => (din h d e).map (!·)
  | .is_, d, .non => some (isNon d)
  | .isnot, d, .non => some (!isNon d)
  | _, _, _ => none
def cmpop (o : Cop) (d e : D) (h : Hs) : R D := match cmpv h o d e with
  | some b => .ok (.bl b) h
  | none => .bad

section
variable {N : Nm} {X : Cx} {ρ : Rho} {h : Hs} {H : Hp} {Q : VK} {d e : D} {x y : V}
theorem str_dec (a b : List Nat) : decide (V.str ⟨a.toArray⟩ = V.str ⟨b.toArray⟩) = decide (a = b) := by
  rw [Bool.eq_iff_iff]; simp
theorem int_dec (a b : Int) : decide (V.int a = V.int b) = decide (a = b) := by
  rw [Bool.eq_iff_iff]; simp
theorem bl_dec (a b : Bool) : decide (V.bl a = V.bl b) = (a == b) := by
  rw [Bool.eq_iff_iff]; simp
theorem Rep.isNon {K} (r : Rep K ρ H d x) : decide (x = V.non) = Z.isNon d := by
  cases r <;> simp [Z.isNon]
/-- the shape of == -/
theorem deq_out {K} (rel : RelH N K ρ h H) (rd : Rep K ρ H d x) (re : Rep K ρ H e y) {b : Bool} (q : deq h d e = some b) :
    (scal x y = true ∧ decide (x = y) = b) ∨ ∃ p p', Dp K H x p ∧ Dp K H y p' ∧ SeqAt.shaped p = true ∧ SeqAt.shaped p' = true ∧ PyData.eqv p p' = b := by
  have gen : ∀ {d e : D}, Rep K ρ H d x → Rep K ρ H e y → (match pdh h d, pdh h e with
    | some x, some y => if SeqAt.shaped x && SeqAt.shaped y then some (PyData.eqv x y) else none
    | _, _ => none) = some b → (scal x y = true ∧ decide (x = y) = b) ∨ ∃ p p', Dp K H x p ∧ Dp K H y p' ∧ SeqAt.shaped p = true ∧ SeqAt.shaped p' = true ∧ PyData.eqv p p' = b := fun {d e} rd re q => by
    split at q
    · rename_i p p' h1 h2
      split at q
      · rename_i hs
        simp only [Bool.and_eq_true] at hs
        exact .inr ⟨p, p', pdh_dp rel rd h1, pdh_dp rel re h2, hs.1, hs.2, Option.some.inj q⟩
      · cases q
    · cases q
  unfold deq at q
  split at q
  all_goals first
    | exact gen rd re q
    | skip
  all_goals
    left
    cases rd
    cases re
    simp only [Option.some.injEq] at q
    subst q
    exact ⟨rfl, by simp [str_dec, int_dec, bl_dec]⟩
theorem flat_rep {K d v} (r : Rep K ρ H d v) (e : flatD d = true) : flatV v = true := by
  cases r <;> first | rfl | (simp [flatD] at e)
theorem flat_reps {K} : ∀ {ds vs}, Reps K ρ H ds vs → ds.all flatD = true → vs.all flatV = true
  | _, _, .nil, _ => rfl
  | _, _, .cons a b, e => by
    simp only [List.all_cons, Bool.and_eq_true] at e ⊢
    exact ⟨flat_rep a e.1, flat_reps b e.2⟩
theorem eqF_rep {K d e x y} (rd : Rep K ρ H d x) (re : Rep K ρ H e y) : eqV x y = eqF d e := by
  cases rd <;> cases re <;> simp only [eqV, eqF]
  rename_i a b
  rw [Bool.eq_iff_iff]; simp
theorem inV_rep {K d x} (rd : Rep K ρ H d x) : ∀ {ds vs}, Reps K ρ H ds vs → inV x vs = ds.any fun y => eqF y d
  | _, _, .nil => rfl
  | _, _, .cons a b => by
    have ih := inV_rep rd b
    unfold inV at ih ⊢
    rw [List.any_cons, List.any_cons, ih, eqF_rep a rd]
theorem kOf_rep {K d x kk} (rd : Rep K ρ H d x) (e : kOf d = some kk) : x = kV kk := by
  cases rd <;> simp only [kOf] at e <;> cases e <;> rfl
theorem keq_dec {k d : D} {a b : Key} (h1 : kOf k = some a) (h2 : kOf d = some b) : keq k d = decide (a = b) := by
  cases k <;> simp only [kOf] at h1 <;> cases h1 <;> cases d <;> simp only [kOf] at h2 <;> cases h2 <;> simp [keq]
theorem dget_rep {K d kk} (e : kOf d = some kk) : ∀ {kvs kv}, DicR K ρ H kvs kv →
    (∀ v, dget kvs d = some v → ∃ w, valV kv kk = some w ∧ Rep K ρ H v w) ∧ (dget kvs d = none → valV kv kk = none)
  | _, _, .nil => ⟨fun v q => by simp [dget] at q, fun _ => rfl⟩
  | _, _, .cons (k := k) (kk := a) (d := v) (v := w) (ks := ks) (kv := kv) h1 rv b => by
    obtain ⟨i1, i2⟩ := dget_rep e b
    have hk := keq_dec h1 e
    constructor
    · intro v' q
      simp only [dget] at q
      by_cases z : a = kk
      · rw [hk, if_pos (by simpa using z)] at q
        cases q
        exact ⟨w, valV_pos z, rv⟩
      · rw [hk, if_neg (by simpa using z)] at q
        obtain ⟨w', h3, h4⟩ := i1 v' q
        exact ⟨w', (valV_neg z).trans h3, h4⟩
    · intro q
      simp only [dget] at q
      by_cases z : a = kk
      · rw [hk, if_pos (by simpa using z)] at q
        cases q
      · rw [hk, if_neg (by simpa using z)] at q
        exact (valV_neg z).trans (i2 q)
theorem kv_at {K} (rel : RelH N K ρ h H) (re : Rep K ρ H e y) {kvs} (g : kvOf h e = some kvs) : ∃ a kv, y = .ref a ∧ H a = some (.dK kv) ∧ DicR K ρ H kvs kv := by
  cases e with
  | ref n =>
    obtain ⟨a, rfl, ea⟩ := re.ref_inv
    simp only [kvOf] at g
    split at g
    · rename_i kvs' g'
      cases g
      obtain ⟨kv, c, r⟩ := rel.at ea g'
      exact ⟨a, kv, rfl, c, r⟩
    · cases g
  | _ => simp [kvOf] at g
theorem seq_at {K} (rel : RelH N K ρ h H) (re : Rep K ρ H e y) {ds} (g : seqOf h e = some ds) : ∃ a vs, y = .ref a ∧ (SqL K H a vs ∨ SqT K H a vs) ∧ Reps K ρ H ds vs := by
  cases e with
  | ref n =>
    obtain ⟨a, rfl, ea⟩ := re.ref_inv
    simp only [seqOf] at g
    split at g
    · rename_i kvs' g'
      cases g
      obtain ⟨kv, c, r⟩ := rel.at ea g'
      exact ⟨a, kv, rfl, .inl (SqL.of c), r⟩
    · rename_i kvs' g'
      cases g
      obtain ⟨o, kv, c, r⟩ := rel.at ea g'
      exact ⟨a, kv, rfl, .inl (.inl (.inr ⟨o, c⟩)), r⟩
    · cases g
  | tup ds' =>
    cases g
    obtain ⟨a, vs, rfl, t, r⟩ := re.tup_inv
    exact ⟨a, vs, rfl, .inr t, r⟩
  | _ => simp [seqOf] at g
/-- in, not in -/
theorem in_ok (neg : Bool) (hu : X.A.units + 65 < cLine) {pins : List (Addr × Obj)} {s : Shared} {σ : L2.St} {v u : Value} (I : Inv X pins σ H s) (rx : RelV x v) (ry : RelV y u)
    (rel : RelH N X.K ρ h H) (rd : Rep X.K ρ H d x) (re : Rep X.K ρ H e y) {b : Bool} (g : din h d e = some b) (q : Q (.bl (if neg then !b else b)) H) :
    wpAny (model X.prog X.w) X.A (compareOp (if neg then .NotIn else .In) v u) (EP X pins σ Q) X.xe s := by
  unfold din at g
  split at g
  · rename_i c z
    cases g
    cases rd.str_inv
    cases re.str_inv
    cases neg with
    | false => exact op_in_sign pins s σ H _ _ v u Q I rx ry ⟨c, _, rfl, rfl, by simpa using q⟩
    | true => exact op_notIn_sign pins s σ H _ _ v u Q I rx ry ⟨c, _, rfl, rfl, by simpa using q⟩
  · rename_i a z _
    cases g
    cases rd.str_inv
    cases re.str_inv
    cases neg with
    | false => exact op_in_str pins s σ H _ _ v u Q I rx ry ⟨_, _, rfl, rfl, by simpa using q⟩
    | true => exact op_notin_str pins s σ H _ _ v u Q I rx ry ⟨_, _, rfl, rfl, by simpa using q⟩
  · split at g
    · rename_i kvs hk
      split at g
      · rename_i hs
        cases g
        obtain ⟨kk, hkk⟩ := Option.isSome_iff_exists.mp hs
        obtain ⟨a, kv, rfl, ha, r⟩ := kv_at rel re hk
        cases kOf_rep rd hkk
        cases ry
        obtain ⟨i1, i2⟩ := dget_rep hkk r
        have e1 : (valV kv kk).isSome = (dget kvs d).isSome := by
          cases hd : dget kvs d with
          | none => rw [i2 hd]; rfl
          | some w => obtain ⟨w', h1, _⟩ := i1 w hd; rw [h1]; rfl
        cases neg with
        | false =>
          refine d_in (by omega) I (DGet.k (k := kk) ha) rx fun s' I' => ⟨.bl (valV kv kk).isSome, H, I', rfl, ?_⟩
          rw [e1]; simpa using q
        | true =>
          refine d_notIn (by omega) I (DGet.k (k := kk) ha) rx fun s' I' => ⟨.bl (!(valV kv kk).isSome), H, I', rfl, ?_⟩
          rw [e1]; simpa using q
      · cases g
    · split at g
      · rename_i ds hs
        obtain ⟨a, vs, rfl, hq, r⟩ := seq_at rel re hs
        split at g
        · rename_i hf
          simp only [Bool.and_eq_true] at hf
          cases g
          have e1 := inV_rep rd r
          cases neg with
          | false => exact op_in_seq pins s σ H _ _ v u Q I rx ry ⟨a, vs, rfl, hq, flat_rep rd hf.1, flat_reps r hf.2, by rw [e1]; simpa using q⟩
          | true => exact op_notIn_seq pins s σ H _ _ v u Q I rx ry ⟨a, vs, rfl, hq, flat_rep rd hf.1, flat_reps r hf.2, by rw [e1]; simpa using q⟩
        · split at g
          · rename_i p ys h1 h2
            split at g
            · rename_i hs2
              simp only [Bool.and_eq_true] at hs2
              cases g
              cases neg with
              | false => exact op_inD hu pins s σ H _ _ v u Q I rx ry ⟨p, ys, pd_dp rd h1, pdh_dp rel re h2, hs2.1, hs2.2, by simpa using q⟩
              | true => exact op_notInD hu pins s σ H _ _ v u Q I rx ry ⟨p, ys, pd_dp rd h1, pdh_dp rel re h2, hs2.1, hs2.2, by simpa using q⟩
            · cases g
          · cases g
      · cases g
theorem op_cmp (o : Cop) (hu : X.A.units + 65 < cLine) : OpR X (compareOp o.op) (r2 N X.K (cmpop o)) := by
  intro pins s σ H x y v u Q I rx ry ⟨ρ, h, d, e, rel, rd, re, q⟩
  have q' : ∃ b, cmpv h o d e = some b ∧ Q (.bl b) H := by
    unfold cmpop at q
    cases hc : cmpv h o d e with
    | none => rw [hc] at q; exact False.elim q
    | some b => rw [hc] at q; exact ⟨b, rfl, q.ok_here rel (.bl b)⟩
  clear q
  obtain ⟨b, g, q⟩ := q'
  cases o with
  | eq =>
    rcases deq_out rel rd re g with ⟨h1, h2⟩ | ⟨p, p', h1, h2, h3, h4, h5⟩
    · exact op_eq pins s σ H _ _ v u Q I rx ry ⟨h1, by rw [h2]; exact q⟩
    · exact op_eqD (by omega) pins s σ H _ _ v u Q I rx ry ⟨p, p', h1, h2, h3, h4, by rw [h5]; exact q⟩
  | ne =>
    simp only [cmpv, Option.map_eq_some_iff] at g
    obtain ⟨b', g, rfl⟩ := g
    rcases deq_out rel rd re g with ⟨h1, h2⟩ | ⟨p, p', h1, h2, h3, h4, h5⟩
    · exact op_ne pins s σ H _ _ v u Q I rx ry ⟨h1, by rw [h2]; exact q⟩
    · exact op_neD (by omega) pins s σ H _ _ v u Q I rx ry ⟨p, p', h1, h2, h3, h4, by rw [h5]; exact q⟩
  | lt =>
    cases d <;> cases e <;> simp only [cmpv] at g <;> cases g
    · cases rd.int_inv; cases re.int_inv
      exact op_lt pins s σ H _ _ v u Q I rx ry ⟨_, _, rfl, rfl, q⟩
    · cases rd.str_inv; cases re.str_inv
      exact op_lt_str pins s σ H _ _ v u Q I rx ry ⟨_, _, rfl, rfl, by simpa using q⟩
  | le =>
    cases d <;> cases e <;> simp only [cmpv] at g <;> cases g
    · cases rd.int_inv; cases re.int_inv
      exact op_le pins s σ H _ _ v u Q I rx ry ⟨_, _, rfl, rfl, q⟩
    · cases rd.str_inv; cases re.str_inv
      exact op_le_str pins s σ H _ _ v u Q I rx ry ⟨_, _, rfl, rfl, by simpa using q⟩
  | gt =>
    cases d <;> cases e <;> simp only [cmpv] at g <;> cases g
    · cases rd.int_inv; cases re.int_inv
      exact op_gt pins s σ H _ _ v u Q I rx ry ⟨_, _, rfl, rfl, q⟩
    · cases rd.str_inv; cases re.str_inv
      exact op_gt_str pins s σ H _ _ v u Q I rx ry ⟨_, _, rfl, rfl, by simpa using q⟩
  | ge =>
    cases d <;> cases e <;> simp only [cmpv] at g <;> cases g
    · cases rd.int_inv; cases re.int_inv
      exact op_ge pins s σ H _ _ v u Q I rx ry ⟨_, _, rfl, rfl, q⟩
    · cases rd.str_inv; cases re.str_inv
      exact op_ge_str pins s σ H _ _ v u Q I rx ry ⟨_, _, rfl, rfl, by simpa using q⟩
  | isin => exact in_ok (N := N) false hu I rx ry rel rd re g q
  | notin =>
    simp only [cmpv, Option.map_eq_some_iff] at g
    obtain ⟨b', g, rfl⟩ := g
    exact in_ok (N := N) true hu I rx ry rel rd re g q
  | is_ =>
    cases e <;> simp only [cmpv] at g <;> try cases g
    cases re.non_inv
    exact op_isN pins s σ H _ _ v u Q I rx ry ⟨rfl, by rw [rd.isNon]; exact q⟩
  | isnot =>
    cases e <;> simp only [cmpv] at g <;> try cases g
    cases re.non_inv
    exact op_notN pins s σ H _ _ v u Q I rx ry ⟨rfl, by rw [rd.isNon]; exact q⟩
end
end Z
end
section
set_option Elab.async false
set_option linter.all false
set_option maxRecDepth 100000
namespace Z
open PySem L2 PyProof.Rows

/-! ## a[b] -/
def idxop (d e : D) (h : Hs) : R D :=
  match kvOf h d with
  | some kvs => if (kOf e).isSome then (match dget kvs e with | some v => .ok v h | none => .bad) else .bad
  | none => match e with
    | .int i => match d with
      | .str l => if l.length ≤ big then (match atI l i with | some c => .ok (.str [c]) h | none => .bad) else .bad
      | d => match seqOf h d with
        | some ds => match atI ds i with
          | some v => .ok v h
          | none => .bad
        | none => .bad
    | _ => .bad
section
variable {N : Nm} {X : Cx} {ρ : Rho} {h : Hs} {H : Hp} {Q : VK} {d e : D} {x y : V}
theorem atI_rep {K ds vs i d} (r : Reps K ρ H ds vs) (g : atI ds i = some d) : ∃ v, atI vs i = some v ∧ Rep K ρ H d v := by
  unfold atI at g ⊢
  rw [← r.length]
  cases hx : ixN ds.length i with
  | none => rw [hx] at g; cases g
  | some j =>
    rw [hx] at g
    exact r.get g
theorem ix_any (hu : X.A.units + 65 < cLine) : IxR X (r2 N X.K idxop) := by
  intro value slice pins s σ H x y v u Q I rx ry ⟨ρ, h, d, e, rel, rd, re, q⟩ hs
  unfold idxop at q
  split at q
  · rename_i kvs hk
    split at q
    · rename_i hk2
      obtain ⟨kk, hkk⟩ := Option.isSome_iff_exists.mp hk2
      obtain ⟨a, kv, rfl, ha, r⟩ := kv_at rel rd hk
      cases kOf_rep re hkk
      cases rx
      obtain ⟨i1, i2⟩ := dget_rep hkk r
      split at q
      · rename_i w hw
        obtain ⟨w', h1, h2⟩ := i1 w hw
        have g : DGet H a (kV kk) (some w') := h1 ▸ DGet.k (k := kk) ha
        exact tail_any (dict_typeIs I g) PySem.F.slot_dict_getitem.lookup (d_getItem (by omega) I g ry fun w2 s3 I3 rw' => ⟨w', H, I3, rw', q.ok_here rel h2⟩) hs
      · exact False.elim q
    · exact False.elim q
  · split at q
    · cases re.int_inv
      split at q
      · cases rd.str_inv
        rename_i l _
        split at q
        · rename_i hz
          split at q
          · rename_i c hc
            refine ix_str value slice pins s σ H _ _ v u Q I rx ry ⟨_, _, c, rfl, rfl, ?_, ?_, q.ok_here rel (.str [c])⟩ hs
            · show l.toArray.size ≤ _
              simp only [List.size_toArray]
              exact big_line hz
            · exact hc
          · exact False.elim q
        · exact False.elim q
      · split at q
        · rename_i ds hds
          obtain ⟨a, vs, rfl, hq, r⟩ := seq_at rel rd hds
          split at q
          · rename_i w hw
            obtain ⟨w', h1, h2⟩ := atI_rep r hw
            rcases hq with hq | hq
            · exact ix_list value slice pins s σ H _ _ v u Q I rx ry ⟨a, vs, _, w', rfl, rfl, hq, h1, q.ok_here rel h2⟩ hs
            · exact ix_tup value slice pins s σ H _ _ v u Q I rx ry ⟨a, vs, _, w', rfl, rfl, hq, h1, q.ok_here rel h2⟩ hs
          · exact False.elim q
        · exact False.elim q
    · exact False.elim q

/-! ## a[lo:hi] -/
def cutD {α : Type} (ds : List α) (lo hi : Option Int) : List α := (ds.drop (HT.sIx ds.length 0 lo)).take (HT.sIx ds.length ds.length hi - HT.sIx ds.length 0 lo)
def slcop (d : D) (lo hi : Option Int) (h : Hs) : R D :=
  match d with
  | .str l => if l.length ≤ big then .ok (.str (cutD l lo hi)) h else .bad
  | .tup ds => .ok (.tup (cutD ds lo hi)) h
  | .ref n => match h.get n with
    | some (.lst ds) => .ok (.ref h.n) (h.new (.lst (cutD ds lo hi)))
    | some (.frz ds) => .ok (.ref h.n) (h.new (.lst (cutD ds lo hi)))
    | _ => .bad
  | _ => .bad
def rS (N : Nm) (K : PySem.W.Frag) : V → Option Int → Option Int → Hp → VK → Prop := fun x lo hi H Q => ∃ ρ h d, RelH N K ρ h H ∧ Rep K ρ H d x ∧ ResV N K ρ H (slcop d lo hi h) Q
theorem cut_rep {K ds vs lo hi} (r : Reps K ρ H ds vs) : Reps K ρ H (cutD ds lo hi) (cutV vs lo hi) := by
  unfold cutD cutV
  rw [← r.length]
  exact (r.drop _).take _
theorem sl_any : SlR X (rS N X.K) := by
  intro pins s σ H x v vl vu lo hi sl Q I rx hs pl pu ⟨ρ, h, d, rel, rd, q⟩
  unfold slcop at q
  split at q
  · cases rd.str_inv
    rename_i l
    split at q
    · rename_i hz
      refine sl_str pins s σ H _ v vl vu lo hi sl Q I rx hs pl pu ⟨_, rfl, ?_, ?_⟩
      · show l.toArray.size ≤ _
        simp only [List.size_toArray]
        exact big_line hz
      · have e : cutS ⟨l.toArray⟩ lo hi = ⟨(cutD l lo hi).toArray⟩ := by
          unfold cutS cutD
          show Str.mk ((List.take (HT.sIx l.toArray.size l.toArray.size hi - HT.sIx l.toArray.size 0 lo) (List.drop (HT.sIx l.toArray.size 0 lo) l.toArray.toList)).toArray) = _
          simp
        rw [e]
        exact q.ok_here rel (.str _)
    · exact False.elim q
  · rename_i ds
    obtain ⟨a, vs, rfl, ta, ra⟩ := rd.tup_inv
    refine sl_tupA pins s σ H _ v vl vu lo hi sl Q I rx hs pl pu ⟨a, vs, rfl, ta, fun ⟨z1, z2⟩ => ?_, fun _ p hp => q.tup rel (cut_rep ra) hp⟩
    have e : cutD ds lo hi = ds := by
      unfold cutD
      rw [ra.length, z1, z2]
      rw [← ra.length]
      simp
    rw [e] at q
    exact q.ok_here rel rd
  · obtain ⟨a, rfl, ea⟩ := rd.ref_inv
    split at q
    · rename_i ds g
      obtain ⟨vs, c, ra⟩ := rel.at ea g
      exact sl_list pins s σ H _ v vl vu lo hi sl Q I rx hs pl pu ⟨a, vs, rfl, SqL.of c, fun p hp => q.lst rel (cut_rep ra) hp⟩
    · rename_i ds g
      obtain ⟨o, vs, c, ra⟩ := rel.at ea g
      exact sl_list pins s σ H _ v vl vu lo hi sl Q I rx hs pl pu ⟨a, vs, rfl, .inl (.inr ⟨o, c⟩), fun p hp => q.lst rel (cut_rep ra) hp⟩
    · exact False.elim q
  · exact False.elim q

/-! ## truth -/
def tru (h : Hs) : D → Option Bool
  | .non => some false
  | .bl b => some b
  | .int i => some (i != 0)
  | .str l => if l.length ≤ big then some (!l.isEmpty) else none
  | .tup ds => some (!ds.isEmpty)
  | .ref n => match h.get n with
    | some (.lst ds) => some (!ds.isEmpty)
    | some (.frz ds) => some (!ds.isEmpty)
    | some (.dic ks) => some (!ks.isEmpty)
    | _ => none
theorem isEmpty_reps {K ds vs} (r : Reps K ρ H ds vs) : vs.isEmpty = ds.isEmpty := by cases r <;> rfl
theorem tru_rep {K} (rel : RelH N K ρ h H) (rd : Rep K ρ H d x) {b} (g : tru h d = some b) : TruV K x H b := by
  cases d with
  | non => cases rd.non_inv; cases g; rfl
  | bl => cases rd.bl_inv; cases g; rfl
  | int => cases rd.int_inv; cases g; rfl
  | str l =>
    cases rd.str_inv
    simp only [tru] at g
    split at g
    · rename_i hz
      cases g
      refine ⟨?_, ?_⟩
      · show l.toArray.size ≤ _
        simp only [List.size_toArray]
        exact big_line hz
      · show (!l.isEmpty) = ((l.toArray.size : Int) != 0)
        cases l with
        | nil => rfl
        | cons a l => simp; omega
    · cases g
  | tup ds =>
    obtain ⟨a, vs, rfl, ta, ra⟩ := rd.tup_inv
    cases g
    exact .inr (.inl ⟨vs, ta, by rw [isEmpty_reps ra]⟩)
  | ref n =>
    obtain ⟨a, rfl, ea⟩ := rd.ref_inv
    simp only [tru] at g
    split at g
    · rename_i ds g'
      cases g
      obtain ⟨vs, c, ra⟩ := rel.at ea g'
      exact .inl ⟨vs, SqL.of c, by rw [isEmpty_reps ra]⟩
    · rename_i ds g'
      cases g
      obtain ⟨o, vs, c, ra⟩ := rel.at ea g'
      exact .inl ⟨vs, .inl (.inr ⟨o, c⟩), by rw [isEmpty_reps ra]⟩
    · rename_i ks g'
      cases g
      obtain ⟨kv, c, ra⟩ := rel.at ea g'
      exact .inr (.inr ⟨kv, c, by cases ra <;> rfl⟩)
    · cases g

/-! ## built-ins called with values -/
inductive Blt where | len | str | int | tuple | list | max | abs
def Blt.val : Blt → Value
  | .len => .builtin "len" | .str => .type "str" | .int => .type "int" | .tuple => .type "tuple" | .list => .type "list" | .max => .builtin "max" | .abs => .builtin "abs"
def numText (i : Int) : List Nat := (toString i).toList.map Char.toNat
def intsOf : List D → Option (List Int)
  | [] => some []
  | .int i :: r => (intsOf r).map (i :: ·)
  | _ => none
def maxOf : List Int → Int
  | [] => 0
  | [a] => a
  | a :: r => let m := maxOf r; if a < m then m else a
def keysOf : List (D × D) → List D := List.map (·.1)
def bltop : Blt → List D → Hs → R D
  | .len, [.str l], h => if l.length ≤ big then .ok (.int l.length) h else .bad
  | .len, [d], h => match kvOf h d with
    | some kvs => .ok (.int kvs.length) h
    | none => match seqOf h d with
      | some ds => .ok (.int ds.length) h
      | none => .bad
  | .str, [.int i], h => if i.natAbs.log2 < 1920 then .ok (.str (numText i)) h else .bad
  | .str, [.str l], h => .ok (.str l) h
  | .int, [.int i], h => .ok (.int i) h
  | .int, [.bl b], h => .ok (.int (if b then 1 else 0)) h
  | .tuple, [d], h => match seqOf h d with
    | some ds => .ok (.tup ds) h
    | none => .bad
  | .list, [d], h => match kvOf h d with
    | some kvs => .ok (.ref h.n) (h.new (.lst (keysOf kvs)))
    | none => match seqOf h d with
      | some ds => .ok (.ref h.n) (h.new (.lst ds))
      | none => .bad
  | .max, [.int i, .int j], h => .ok (.int (if j > i then j else i)) h
  | .max, [.ref n], h => match h.get n with
    | some (.lst ds) => match intsOf ds with
      | some (a :: r) => .ok (.int (maxOf (a :: r))) h
      | _ => .bad
    | _ => .bad
  | .abs, [.int i], h => .ok (.int (if i < 0 then -i else i)) h
  | _, _, _ => .bad
def rC (N : Nm) (K : PySem.W.Frag) (g : List D → Hs → R D) : List V → Hp → VK → Prop := fun xs H Q => ∃ ρ h ds, RelH N K ρ h H ∧ Reps K ρ H ds xs ∧ ResV N K ρ H (g ds h) Q
theorem reps1 {K d vs} (r : Reps K ρ H [d] vs) : ∃ v, vs = [v] ∧ Rep K ρ H d v := by
  cases r with
  | cons a b => cases b; exact ⟨_, rfl, a⟩
theorem reps2 {K d e vs} (r : Reps K ρ H [d, e] vs) : ∃ v w, vs = [v, w] ∧ Rep K ρ H d v ∧ Rep K ρ H e w := by
  cases r with
  | cons a b => obtain ⟨w, rfl, rw'⟩ := reps1 b; exact ⟨_, w, rfl, a, rw'⟩
theorem numText_str (i : Int) : (Str.ofString (toString i)) = ⟨(numText i).toArray⟩ := by
  rw [Str.ofString_eq_toList]; rfl
theorem ints_rep {K} : ∀ {ds vs ns}, Reps K ρ H ds vs → intsOf ds = some ns → vs = ns.map V.int
  | [], _, _, r, e => by cases r; simp only [intsOf, Option.some.injEq] at e; subst e; rfl
  | d :: ds, _, _, r, e => by
    cases r with
    | cons a b =>
      cases d <;> simp only [intsOf, reduceCtorEq] at e
      simp only [Option.map_eq_some_iff] at e
      obtain ⟨ns, e, rfl⟩ := e
      cases a.int_inv
      rw [ints_rep b e]
      rfl
theorem maxOf_spec : ∀ (r : List Int) (a m : Int), m ∈ (a :: r) → (∀ y, y ∈ (a :: r) → y ≤ m) → m = maxOf (a :: r)
  | [], a, m, h1, _ => by simpa [maxOf] using h1
  | b :: r, a, m, h1, h2 => by
    have ha := h2 a (by simp)
    simp only [maxOf]
    rcases List.mem_cons.mp h1 with e | e
    · subst e
      split
      · rename_i hlt
        have : maxOf (b :: r) ∈ (b :: r) := by
          have : ∀ (r : List Int) (b : Int), maxOf (b :: r) ∈ (b :: r) := by
            intro r
            induction r with
            | nil => intro b; simp [maxOf]
            | cons c r ih =>
              intro b
              simp only [maxOf]
              split
              · exact List.mem_cons_of_mem _ (ih c)
              · simp
          exact this r b
        have := h2 _ (List.mem_cons_of_mem _ this)
        omega
      · rfl
    · have ih := maxOf_spec r b m e fun y hy => h2 y (List.mem_cons_of_mem _ hy)
      rw [← ih]
      split
      · rfl
      · rename_i hlt; omega
theorem keys_rep {K kvs kv} (r : DicR K ρ H kvs kv) : Reps K ρ H (keysOf kvs) (kv.map fun p => kV p.1) := by
  induction r with
  | nil => exact .nil
  | cons e a b ih =>
    refine .cons ?_ ih
    rename_i k kk d v ks kv
    cases k <;> simp only [kOf] at e <;> cases e
    · exact .int _
    · exact .str _
theorem dic_length {K kvs kv} (r : DicR K ρ H kvs kv) : kvs.length = kv.length := by
  induction r with
  | nil => rfl
  | cons _ _ _ ih => simp [ih]
theorem call_blt (b : Blt) (hc : X.calm = true) : CallR X b.val (rC N X.K (bltop b)) := by
  intro pins s σ H xs us Q I rxs ⟨ρ, h, ds, rel, rds, q⟩
  cases b with
  | len =>
    unfold bltop at q
    split at q <;> try contradiction
    · obtain ⟨v, rfl, rd⟩ := reps1 rds
      cases rd.str_inv
      rename_i l _
      split at q
      · rename_i hz
        refine call_len_str pins s σ H _ us Q I rxs ⟨_, rfl, ?_, ?_⟩
        · show l.toArray.size ≤ _
          simp only [List.size_toArray]
          exact big_line hz
        · have : (⟨l.toArray⟩ : Str).length = l.length := by show l.toArray.size = _; simp
          rw [this]
          exact q.ok_here rel (.int _)
      · exact False.elim q
    · obtain ⟨v, rfl, rd⟩ := reps1 rds
      split at q
      · rename_i kvs hk
        obtain ⟨a, kv, rfl, ha, r⟩ := kv_at rel rd hk
        refine call_lenD pins s σ H _ us Q I rxs ⟨a, kv, rfl, ha, ?_⟩
        rw [← dic_length r]
        exact q.ok_here rel (.int _)
      · split at q
        · rename_i ds' hs
          obtain ⟨a, vs, rfl, hq, r⟩ := seq_at rel rd hs
          refine call_len_seq pins s σ H _ us Q I rxs ⟨a, vs, rfl, hq, ?_⟩
          rw [← r.length]
          exact q.ok_here rel (.int _)
        · exact False.elim q
  | str =>
    unfold bltop at q
    split at q <;> try contradiction
    · obtain ⟨v, rfl, rd⟩ := reps1 rds
      cases rd.int_inv
      split at q
      · rename_i hz
        refine call_str_int pins s σ H _ us Q I rxs ⟨_, rfl, hz, ?_⟩
        rw [numText_str]
        exact q.ok_here rel (.str _)
      · exact False.elim q
    · obtain ⟨v, rfl, rd⟩ := reps1 rds
      cases rd.str_inv
      exact SkE.call_str_str pins s σ H _ us Q I rxs ⟨_, rfl, q.ok_here rel (.str _)⟩
  | int =>
    unfold bltop at q
    split at q <;> try contradiction
    · obtain ⟨v, rfl, rd⟩ := reps1 rds
      cases rd.int_inv
      exact call_int1 pins s σ H _ us Q I rxs (.inl ⟨_, rfl, q.ok_here rel (.int _)⟩)
    · obtain ⟨v, rfl, rd⟩ := reps1 rds
      cases rd.bl_inv
      exact call_int1 pins s σ H _ us Q I rxs (.inr ⟨_, rfl, q.ok_here rel (.int _)⟩)
  | tuple =>
    unfold bltop at q
    split at q <;> try contradiction
    obtain ⟨v, rfl, rd⟩ := reps1 rds
    split at q
    · rename_i d _ ds' hs
      obtain ⟨a, vs, rfl, hq, r⟩ := seq_at rel rd hs
      refine call_tuple_of pins s σ H _ us Q I rxs ⟨a, vs, rfl, ?_⟩
      rcases hq with hq | hq
      · exact .inl ⟨hq, fun p hp => q.tup rel r hp⟩
      · exact .inr ⟨hq, q.ok_here rel (.tup hq r)⟩
    · exact False.elim q
  | list =>
    unfold bltop at q
    split at q <;> try contradiction
    obtain ⟨v, rfl, rd⟩ := reps1 rds
    split at q
    · rename_i kvs hk
      obtain ⟨a, kv, rfl, ha, r⟩ := kv_at rel rd hk
      exact call_list_dK hc pins s σ H _ us Q I rxs ⟨a, kv, rfl, ha, fun p hp => q.lst rel (keys_rep r) hp⟩
    · split at q
      · rename_i ds' hs
        obtain ⟨a, vs, rfl, hq, r⟩ := seq_at rel rd hs
        exact call_list_of pins s σ H _ us Q I rxs ⟨a, vs, rfl, hq, fun p hp => q.lst rel r hp⟩
      · exact False.elim q
  | max =>
    unfold bltop at q
    split at q <;> try contradiction
    · obtain ⟨v, w, rfl, rd, re⟩ := reps2 rds
      cases rd.int_inv
      cases re.int_inv
      exact call_max2 hc pins s σ H _ us Q I rxs ⟨_, _, rfl, q.ok_here rel (.int _)⟩
    · obtain ⟨v, rfl, rd⟩ := reps1 rds
      obtain ⟨a, rfl, ea⟩ := rd.ref_inv
      split at q
      · rename_i ds' g
        obtain ⟨vs, c, ra⟩ := rel.at ea g
        split at q
        · rename_i a0 r0 hi
          have := ints_rep ra hi
          subst this
          refine cr_max hc pins s σ H _ us Q I rxs ⟨a, _, rfl, SqL.of c, by simp, fun m h1 h2 => ?_⟩
          rw [maxOf_spec r0 a0 m h1 h2]
          exact q.ok_here rel (.int _)
        · exact False.elim q
      · exact False.elim q
  | abs =>
    unfold bltop at q
    split at q <;> try contradiction
    obtain ⟨v, rfl, rd⟩ := reps1 rds
    cases rd.int_inv
    exact call_abs pins s σ H _ us Q I rxs ⟨_, rfl, q.ok_here rel (.int _)⟩

/-! ## methods of built-in values -/
inductive Bm where | append | extend | pop | popAt | reverse | clear | join | replace | lindex | insert
def Bm.ty : Bm → String
  | .join | .replace => "str"
  | _ => "list"
def Bm.nm : Bm → String
  | .append => "append" | .extend => "extend" | .pop => "pop" | .popAt => "pop" | .reverse => "reverse" | .clear => "clear" | .join => "join" | .replace => "replace" | .lindex => "index" | .insert => "insert"
def bmop : Bm → D → List D → Hs → R D
  | .append, .ref n, [d], h => match h.get n with
    | some (.lst ds) => if ds.length < big then .ok .non (h.set n (.lst (ds ++ [d]))) else .bad
    | _ => .bad
  | .extend, .ref n, [.ref m], h => match h.get n, h.get m with
    | some (.lst ds), some (.lst es) => if ds.length + es.length ≤ big then .ok .non (h.set n (.lst (ds ++ es))) else .bad
    | _, _ => .bad
  | .pop, .ref n, [], h => match h.get n with
    | some (.lst ds) => match ds[ds.length - 1]? with
      | some d => .ok d (h.set n (.lst ds.dropLast))
      | none => .bad
    | _ => .bad
  | .popAt, .ref n, [.int i], h => match h.get n with
    | some (.lst ds) => if -1000000000 ≤ i ∧ i ≤ 1000000000 then (match ixN ds.length i with
      | some k => match ds[k]? with
        | some d => .ok d (h.set n (.lst (ds.eraseIdx k)))
        | none => .bad
      | none => .bad) else .bad
    | _ => .bad
  | .reverse, .ref n, [], h => match h.get n with
    | some (.lst ds) => .ok .non (h.set n (.lst ds.reverse))
    | _ => .bad
  | .clear, .ref n, [], h => match h.get n with
    | some (.lst _) => .ok .non (h.set n (.lst []))
    | _ => .bad
  | _, _, _, _ => .bad
def rM (N : Nm) (K : PySem.W.Frag) (g : D → List D → Hs → R D) : V → List V → Hp → VK → Prop := fun x xs H Q => ∃ ρ h d ds, RelH N K ρ h H ∧ Rep K ρ H d x ∧ Reps K ρ H ds xs ∧ ResV N K ρ H (g d ds h) Q
/-- a list is written -/
theorem ResV.wr {K n a o vs ds} {d : D} {v : V} (rel : RelH N K ρ h H) (e : ρ n = some a) (g : h.get n = some o) (q : ResV N K ρ H (.ok d (h.set n (.lst ds))) Q) (r : Reps K ρ H ds vs) (rd : Rep K ρ H d v) : Q v (upd H a (.lst vs)) := by
  have mk : ∀ tp : (∀ b xs, SqT K H b xs → SqT K (upd H a (.lst vs)) b xs), Mon K ρ H ρ (upd H a (.lst vs)) := fun tp => ⟨fun _ _ e => e, tp⟩
  have gr := Grow.write (u := .lst vs) (o' := .lst ds) rel e g fun tp => ⟨vs, upd_same, r.mon (mk tp)⟩
  exact q _ _ _ gr (rd.mon gr.mon)
theorem mt_any (b : Bm) : MtR X (b.ty ++ "." ++ b.nm) (rM N X.K (bmop b)) := by
  intro pins s σ H x xs v us Q I rx rxs ⟨ρ, h, d, ds, rel, rd, rds, q⟩
  cases b with
  | append =>
    unfold bmop at q
    split at q <;> try contradiction
    obtain ⟨a, rfl, ea⟩ := rd.ref_inv
    obtain ⟨w, rfl, rw'⟩ := reps1 rds
    split at q
    · rename_i ds' g
      obtain ⟨vs, c, ra⟩ := rel.at ea g
      split at q
      · rename_i hz
        exact mt_append pins s σ H _ _ v us Q I rx rxs ⟨a, vs, w, rfl, rfl, c, by rw [← ra.length]; exact big_lt hz, q.wr rel ea g (ra.append (.cons rw' .nil)) .non⟩
      · exact False.elim q
    · exact False.elim q
  | extend =>
    unfold bmop at q
    split at q <;> try contradiction
    obtain ⟨a, rfl, ea⟩ := rd.ref_inv
    obtain ⟨w, rfl, rw'⟩ := reps1 rds
    obtain ⟨b, rfl, eb⟩ := rw'.ref_inv
    split at q
    · rename_i ds' es g g2
      obtain ⟨vs, c, ra⟩ := rel.at ea g
      obtain ⟨ws, c2, rb⟩ := rel.at eb g2
      split at q
      · rename_i hz
        exact mt_extend pins s σ H _ _ v us Q I rx rxs ⟨a, b, vs, ws, rfl, rfl, c, c2, by rw [← ra.length, ← rb.length]; exact big_line hz, q.wr rel ea g (ra.append rb) .non⟩
      · exact False.elim q
    · exact False.elim q
  | pop =>
    unfold bmop at q
    split at q <;> try contradiction
    obtain ⟨a, rfl, ea⟩ := rd.ref_inv
    cases rds
    split at q
    · rename_i ds' g
      obtain ⟨vs, c, ra⟩ := rel.at ea g
      split at q
      · rename_i d' hd
        obtain ⟨w, hw, rw'⟩ := ra.get hd
        exact mt_pop pins s σ H _ _ v us Q I rx rxs ⟨a, vs, w, rfl, rfl, c, by rw [← ra.length]; exact hw, q.wr rel ea g ra.dropLast rw'⟩
      · exact False.elim q
    · exact False.elim q
  | popAt =>
    unfold bmop at q
    split at q <;> try contradiction
    obtain ⟨a, rfl, ea⟩ := rd.ref_inv
    obtain ⟨w, rfl, rw'⟩ := reps1 rds
    cases rw'.int_inv
    split at q
    · rename_i ds' g
      obtain ⟨vs, c, ra⟩ := rel.at ea g
      split at q
      · rename_i hz
        split at q
        · rename_i k hk
          split at q
          · rename_i d' hd
            obtain ⟨w, hw, rw'⟩ := ra.get hd
            obtain ⟨h1, h2, h3, h4⟩ := ixN_seq hk
            exact mt_popAt pins s σ H _ _ v us Q I rx rxs ⟨a, vs, _, k, w, rfl, rfl, c, by omega, by omega, by rw [← ra.length]; exact h1, hw, q.wr rel ea g (ra.eraseIdx k) rw'⟩
          · exact False.elim q
        · exact False.elim q
      · exact False.elim q
    · exact False.elim q
  | reverse =>
    unfold bmop at q
    split at q <;> try contradiction
    obtain ⟨a, rfl, ea⟩ := rd.ref_inv
    cases rds
    split at q
    · rename_i ds' g
      obtain ⟨vs, c, ra⟩ := rel.at ea g
      exact mt_reverse pins s σ H _ _ v us Q I rx rxs ⟨a, vs, rfl, rfl, c, q.wr rel ea g ra.reverse .non⟩
    · exact False.elim q
  | clear =>
    unfold bmop at q
    split at q <;> try contradiction
    obtain ⟨a, rfl, ea⟩ := rd.ref_inv
    cases rds
    split at q
    · rename_i ds' g
      obtain ⟨vs, c, ra⟩ := rel.at ea g
      exact mt_clear pins s σ H _ _ v us Q I rx rxs ⟨a, vs, rfl, rfl, c, q.wr rel ea g .nil .non⟩
    · exact False.elim q
  | join => cases d <;> exact False.elim q
  | replace => cases d <;> exact False.elim q
  | lindex => cases d <;> exact False.elim q
  | insert => cases d <;> exact False.elim q
end
end Z
end
section
set_option Elab.async false
set_option linter.all false
set_option maxRecDepth 100000
namespace Z
open PySem L2 PyProof.Rows

/-! ## syntax facts -/
def plainE : Expr → Bool
  | .Starred _ _ => false
  | .ListComp _ _ _ _ => false
  | .SetComp _ _ _ _ => false
  | .DictComp _ _ _ _ _ => false
  | .Set _ _ _ => false
  | .Slice _ _ _ _ => false
  | _ => true
def noStar : Expr → Bool
  | .Starred _ _ => false
  | _ => true
def base0 : Expr → Bool
  | .Call (.Name _ _) [] [] _ => false
  | _ => true
theorem star_of {e : Expr} {es : List Expr} {env : Env} (h : noStar e = true) : starEach (e :: es) env = (false, eval e env) :: starEach es env := by
  cases e <;> first | rfl | (simp [noStar] at h)
theorem stars_of {env : Env} {pos : Pos} : ∀ {es : List Expr}, es.all noStar = true → (backTo pos (starEach es env)).any (·.1) = false
  | [], _ => rfl
  | e :: es, h => by
    simp only [List.all_cons, Bool.and_eq_true] at h
    rw [star_of h.1]
    show (false || (backTo pos (starEach es env)).any (·.1)) = false
    rw [stars_of h.2]
    rfl
theorem base_of {e : Expr} {f : Str} {env : Env} (h : base0 e = true) : attributeBase e f env (eval e env) = eval e env := by
  cases e <;> try rfl
  rename_i func args kws pos
  cases func <;> try rfl
  cases args <;> try rfl
  cases kws <;> try rfl
  simp [base0] at h
theorem swaps_of {e : Expr} {tg : Option Expr} {l : Nat} {env : Env} (h : plainE e = true) : swapsWith e tg l env = pure false := by
  cases e <;> first | rfl | (simp [plainE] at h)
theorem folded_of {e : Expr} {env : Env} (h : plainE e = true) : ∀ x, foldedSetIterable e env x = pure x := by
  intro x
  cases e <;> first | rfl | (simp [plainE] at h)
theorem ix_of {e : Expr} (h : plainE e = true) : PlainIx e := by
  intro o i
  cases e <;> first | rfl | (simp [plainE] at h)
def plainT : Expr → Bool
  | .BoolOp _ _ _ => false
  | .UnaryOp _ _ _ => false
  | .IfExp _ _ _ _ => false
  | .Compare _ _ _ _ => false
  | _ => true
theorem true_of {a : Expr} {env : Env} (h : plainT a = true) : ∀ whole, isTrue a env whole = (do let v ← whole; standAt a.pos; holding [v] (truthy v)) := by
  intro whole
  cases a <;> first | rfl | (simp [plainT] at h)
theorem meth_form {o : Expr} {m : Str} {apos pos : Pos} {es : List Expr} {env : Env} (ho : base0 o = true) (hs : es.all noStar = true) (hn : es.length < 30) (hl : (apos.endLine == pos.line) = true) :
    ∃ pl : Sem Bool, eval (.Call (.Attribute o m apos) es [] pos) env = (do
      let ov ← eval o env
      standAt apos.atName
      let (f, first) ← holding [ov] (getMethod ov m pl)
      callWith pos f first (backTo pos (starEach es env)) (backToKw pos (keywordEach [] env))) := by
  have hall : ∀ {es : List Expr}, es.all noStar = true → (backTo pos (starEach es env)).all (!·.1) = true := by
    intro es
    induction es with
    | nil => intro _; rfl
    | cons e es ih =>
      intro h
      simp only [List.all_cons, Bool.and_eq_true] at h
      rw [star_of h.1]
      show (true && (backTo pos (starEach es env)).all (!·.1)) = true
      rw [ih h.2]
      rfl
  refine ⟨do return (← importBound o env).getD true, ?_⟩
  · rw [arm_eval_Call, base_of ho]
    unfold methodCall
    have hform : methodCallForm (es.length + ([] : List Keyword).length) (backTo pos (starEach es env)) (backToKw pos (keywordEach [] env)) = true := by
      unfold methodCallForm
      rw [hall hs]
      show (true && true && decide (es.length + 0 + _ < 30)) = true
      simp only [Bool.and_self, Bool.true_and, decide_eq_true_eq]
      have e0 : backToKw pos (keywordEach [] env) = [] := rfl
      rw [e0]
      exact hn
    rw [hform]
    have hpos : methodCallPos true o env apos pos = pure pos := by
      unfold methodCallPos
      rw [hl]
      rfl
    rw [hpos]
    rfl

/-! ## defs -/
/-- a def keeps a promise; no repr is under way around it -/
structure FnG (P : Program) (w : World) (K : PySem.W.Frag) (mg : Str → Option Value) (base : Heap) (k : Nat) (f : Addr) (fd : FuncData) (ps : List Str) (sp : Sp) : Prop where
  len : ∀ vs H Q E, sp vs H Q E → vs.length = ps.length
  run : ∀ (A : Around) (outer : List Env) (s : Shared) (H : Hp) (args : Args) (us : List Value) (vs : List V) (Q : VK) (E : XK), Room k A → A.guards = some [] →
    Env0 P w K mg base A outer s H → BindsTo s fd args (ps.zip us) → Vals vs us → sp vs H Q E → codeAny (model P w) A (.call (.ref f) args) (CR (L2.CX P w) outer P w H s Q E) s
theorem FnG.up {P w K mg base j k f fd ps sp} (F : FnG P w K mg base j f fd ps sp) (h : j ≤ k) : FnG P w K mg base k f fd ps sp :=
  ⟨F.len, fun A outer s H args us vs Q E hr => F.run A outer s H args us vs Q E (hr.mono h)⟩
section
variable {X : Cx} {k : Nat} {f C : Addr} {fd : FuncData} {ps : List Str} {sp : Sp} {W : WX} {x m : Str} {p pos apos : Pos} {e o : Expr} {es : List Expr} {ta : TE} {t : TA}
theorem runG {pins : List (Addr × Obj)} {σ : L2.St} {H : Hp} {s : Shared} {Q : VK} {us : List Value} {vs : List V} (F : FnG X.prog X.w X.K X.mg X.base k f fd ps sp) (hr : Room k X.A) (hg : X.A.guards = some [])
    (hb : Binds X.K fd ps []) (tk : Takes X W) (I : Inv X pins σ H s) (r : Vals vs us) (h : sp vs H Q (WE W σ)) : wpAny (model X.prog X.w) X.A (call (.ref f) us) (EP X pins σ Q) X.xe s := by
  have hl : us.length = ps.length := r.length.symm.trans (F.len _ _ _ _ h)
  have b := hb s us I.kIn (by rw [List.append_nil]; exact hl)
  rw [List.append_nil] at b
  refine wpAny_call (codeAny_mono (F.run X.A X.stack s H ⟨us, []⟩ us vs Q (WE W σ) hr hg I.env0 b r h) fun res s2 hq => ?_)
  match res, hq with
  | .error err, hq => exact passAt tk σ pins H s err s2 I hq
  | .ok (.ret u), hq => exact I.after hq
/-- f(..) -/
theorem pe_fn (F : FnG X.prog X.w X.K X.mg X.base k f fd ps sp) (hr : Room k X.A) (hgd : X.A.guards = some []) (hg : Gl X x) (hm : X.mg x = some (.ref f)) (hk : PySem.W.keepIn X.K (.ref f) = true) (hb : Binds X.K fd ps [])
    (tk : Takes X W) (ha : PA X (e :: es) t) (hdb : (x == ("__debug__" : Str)) = false) (hs : (e :: es).all noStar = true) : PE X (.Call (.Name x p) (e :: es) [] pos) (tCallS sp (WE W) t) := by
  refine ⟨fun pins s σ H Q I h => wpAny_Call_Name_kw (ld_glob I hg hm ?_ hdb)⟩
  simp only [List.all_cons, Bool.and_eq_true] at hs
  refine PySem.W.callWith_K (h₀ := X.base) I.ok.mod.kin hk (thn (ha.run pos pins s σ H _ I h) fun us s1 ⟨vs, H1, I1, r, q⟩ => ⟨I1.kIn, ?_⟩) (star_of hs.1) (stars_of hs.2)
  exact runG F hr hgd hb tk I1 r q
theorem pe_fn0 (F : FnG X.prog X.w X.K X.mg X.base k f fd ps sp) (hr : Room k X.A) (hgd : X.A.guards = some []) (hg : Gl X x) (hm : X.mg x = some (.ref f)) (hk : PySem.W.keepIn X.K (.ref f) = true) (hb : Binds X.K fd ps [])
    (tk : Takes X W) (hdb : (x == ("__debug__" : Str)) = false) : PE X (.Call (.Name x p) [] [] pos) (tCallS sp (WE W) tNil) := by
  refine ⟨fun pins s σ H Q I h => wpAny_Call_Name_kw (ld_glob I hg hm ?_ hdb)⟩
  exact PySem.W.callWith_K0 I.kIn hk (runG (us := []) F hr hgd hb tk I .nil h)
/-- o.m(..) -/
def tMethS (C : Addr) (m : Str) (sp : Sp) (E : L2.St → XK) (ta : TE) (t : TA) : TE := fun σ H Q => ta σ H fun x H1 => ∃ a dx fs, x = .ref a ∧ H1 a = some (.ins C dx fs) ∧ fs.lookup m = none ∧ t σ H1 fun vs H2 => sp (x :: vs) H2 Q (E σ)
theorem pe_mth (he : PE X o ta) (c : Cls X.K C) (hm : Meth X.K C m f) (F : FnG X.prog X.w X.K X.mg X.base k f fd ps sp) (hr : Room k X.A) (hgd : X.A.guards = some []) (hb : Binds X.K fd ps []) (tk : Takes X W) (ha : PA X (e :: es) t)
    (ho : base0 o = true) (hs : (e :: es).all noStar = true) (hn : (e :: es).length < 30) (hl : (apos.endLine == pos.line) = true) : PE X (.Call (.Attribute o m apos) (e :: es) [] pos) (tMethS C m sp (WE W) ta t) := by
  obtain ⟨pl, ht⟩ := meth_form (m := m) (env := X.env) ho hs hn hl
  simp only [List.all_cons, Bool.and_eq_true] at hs
  refine ⟨fun pins s σ H Q I h => PySem.W.methodCall_KW (pl := pl) (thn (he.run pins s σ H _ I h) fun u s1 ⟨x, H1, I1, rx, a, dx, fs, ex, ea, l, q⟩ => ?_) ht⟩
  subst ex
  obtain rfl : u = Value.ref a := rx
  refine getmeth_ok I1 ea c hm l ?_
  refine PySem.W.callWith_K (first := [.ref a]) (h₀ := X.base) I.ok.mod.kin hm.kp (thn (ha.run pos pins s1 σ H1 _ I1 q) fun us s2 ⟨vs, H2, I2, r, q2⟩ => ⟨I2.kIn, ?_⟩) (star_of hs.1) (stars_of hs.2)
  exact runG (us := .ref a :: us) (vs := .ref a :: vs) F hr hgd hb tk I2 (.cons rfl r) q2
theorem pe_mth0 (he : PE X o ta) (c : Cls X.K C) (hm : Meth X.K C m f) (F : FnG X.prog X.w X.K X.mg X.base k f fd ps sp) (hr : Room k X.A) (hgd : X.A.guards = some []) (hb : Binds X.K fd ps []) (tk : Takes X W)
    (ho : base0 o = true) (hl : (apos.endLine == pos.line) = true) : PE X (.Call (.Attribute o m apos) [] [] pos) (tMethS C m sp (WE W) ta tNil) := by
  obtain ⟨pl, ht⟩ := meth_form (m := m) (env := X.env) (es := []) ho rfl (by simp) hl
  refine ⟨fun pins s σ H Q I h => PySem.W.methodCall_KW (pl := pl) (thn (he.run pins s σ H _ I h) fun u s1 ⟨x, H1, I1, rx, a, dx, fs, ex, ea, l, q⟩ => ?_) ht⟩
  subst ex
  obtain rfl : u = Value.ref a := rx
  refine getmeth_ok I1 ea c hm l ?_
  exact PySem.W.callWith_K0 (first := [.ref a]) I1.kIn hm.kp (runG (us := [.ref a]) (vs := [.ref a]) F hr hgd hb tk I1 (.cons rfl .nil) q)
/-- C(..) -/
def tMakeS (C : Addr) (sp : Sp) (E : L2.St → XK) (t : TA) : TE := fun σ H Q => t σ H fun vs H1 => ∀ x dx, H1 x = none → H1 dx = none → dx ≠ x →
  sp (.ref x :: vs) (upd (upd H1 dx (.own x)) x (.ins C dx [])) (fun v H2 => v = .non ∧ Q (.ref x) H2) (E σ)
theorem runM {pins : List (Addr × Obj)} {σ : L2.St} {H : Hp} {s : Shared} {Q : VK} {us : List Value} {vs : List V} (M : Mk X.K C f) (F : FnG X.prog X.w X.K X.mg X.base k f fd ps sp) (hr : Room (k + 1) X.A) (hgd : X.A.guards = some [])
    (hb : Binds X.K fd ps []) (tk : Takes X W) (I : Inv X pins σ H s) (r : Vals vs us)
    (h : ∀ x dx, H x = none → H dx = none → dx ≠ x → sp (.ref x :: vs) (upd (upd H dx (.own x)) x (.ins C dx [])) (fun v H2 => v = .non ∧ Q (.ref x) H2) (WE W σ)) :
    wpAny (model X.prog X.w) X.A (call (.ref C) us) (EP X pins σ Q) X.xe s := by
  generalize hn : s.heap.objs.size = n
  have I2 : Inv X pins σ (upd (upd H n (.own (n + 1))) (n + 1) (.ins C n [])) { s with heap := (s.heap.push PySem.W.emptyDict).push (PySem.W.instObj C n) } := by
    subst hn
    exact Inv.made I
  have hq := h (n + 1) n (I.hok.fresh (by omega)) (I.hok.fresh (by omega)) (Nat.ne_of_lt (Nat.lt_succ_self n))
  have r2 : Vals (V.ref (n + 1) :: vs) (Value.ref (n + 1) :: us) := .cons rfl r
  have hl : (Value.ref (n + 1) :: us).length = ps.length := r2.length.symm.trans (F.len _ _ _ _ hq)
  have b := hb { s with heap := (s.heap.push PySem.W.emptyDict).push (PySem.W.instObj C n) } (Value.ref (n + 1) :: us) I2.kIn (by rw [List.append_nil]; exact hl)
  rw [List.append_nil] at b
  have hgm : (X.A.under (.builtin "type.__call__" ⟨.ref C :: us, []⟩)).guards = some [] := by
    simp only [Around.under, hgd, Code.guards]
    have e : (Code.builtin "type.__call__" ⟨.ref C :: us, []⟩).isGuard = false := (show guardIds.contains "type.__call__" = false by decide +kernel)
    rw [e, if_neg Bool.false_ne_true]
    rfl
  have go := F.run (X.A.under (.builtin "type.__call__" ⟨.ref C :: us, []⟩)) X.stack _ _ ⟨Value.ref (n + 1) :: us, []⟩ _ _ _ (WE W σ) (hr.make C us []) hgm (I2.env0.make C us []) b r2 hq
  subst hn
  refine wpAny_call (make_map (f := f) I.kIn M.makes M.init (beq_iff_eq.mp M.fn) (codeAny_mono go fun res s2 hq2 => ?_))
  match res, hq2 with
  | .error err, hq2 => exact passAt tk σ pins _ _ err s2 I2 hq2
  | .ok (.ret u), hq2 =>
    obtain ⟨v, H', I3, rv, ev, q3⟩ := I2.after hq2
    subst ev
    exact ⟨rv, .ref _, H', I3, rfl, q3⟩
theorem pe_mk (M : Mk X.K C f) (F : FnG X.prog X.w X.K X.mg X.base k f fd ps sp) (hr : Room (k + 1) X.A) (hgd : X.A.guards = some []) (hg : Gl X x) (hm : X.mg x = some (.ref C)) (hb : Binds X.K fd ps []) (tk : Takes X W)
    (ha : PA X (e :: es) t) (hdb : (x == ("__debug__" : Str)) = false) (hs : (e :: es).all noStar = true) : PE X (.Call (.Name x p) (e :: es) [] pos) (tMakeS C sp (WE W) t) := by
  refine ⟨fun pins s σ H Q I h => wpAny_Call_Name_kw (ld_glob I hg hm ?_ hdb)⟩
  simp only [List.all_cons, Bool.and_eq_true] at hs
  refine PySem.W.callWith_K (h₀ := X.base) I.ok.mod.kin M.kp (thn (ha.run pos pins s σ H _ I h) fun us s1 ⟨vs, H1, I1, r, q⟩ => ⟨I1.kIn, ?_⟩) (star_of hs.1) (stars_of hs.2)
  exact runM M F hr hgd hb tk I1 r q
theorem pe_mk0 (M : Mk X.K C f) (F : FnG X.prog X.w X.K X.mg X.base k f fd ps sp) (hr : Room (k + 1) X.A) (hgd : X.A.guards = some []) (hg : Gl X x) (hm : X.mg x = some (.ref C)) (hb : Binds X.K fd ps []) (tk : Takes X W)
    (hdb : (x == ("__debug__" : Str)) = false) : PE X (.Call (.Name x p) [] [] pos) (tMakeS C sp (WE W) tNil) := by
  refine ⟨fun pins s σ H Q I h => wpAny_Call_Name_kw (ld_glob I hg hm ?_ hdb)⟩
  exact PySem.W.callWith_K0 I.kIn M.kp (runM (us := []) M F hr hgd hb tk I .nil h)
end

/-- a def by its body -/
theorem fnG_of {P : Program} {w : World} {K : PySem.W.Frag} {mg : Str → Option Value} {base : Heap} {k : Nat} {f : Addr} {x qual : Str} {st : Stmt} {fd : FuncData} {N ps : List Str} {sp : Sp} (F : Fun K x qual st f fd) (S : FnScope N ps (defScope st))
    (len : ∀ vs H Q E, sp vs H Q E → vs.length = ps.length)
    (hbody : ∀ (cdv : Value) (A : Around) (outer : List Env) (s : Shared) (H : Hp) (vs : List V) (Q : VK) (E : XK), Room k (A.deeper (envOfC qual (defScope st) s.heap.objs.size f cdv)) → (A.deeper (envOfC qual (defScope st) s.heap.objs.size f cdv)).guards = some [] → sp vs H Q E →
      ∃ t, PSs (cxOf (L2.CX P w) P w K mg base N qual (defScope st) f cdv A outer s H E) (defBody st) t ∧ t { nx := fun _ H' => Q .non H', rt := Q } (start N vs) H) : FnG P w K mg base (k + 1) f fd ps sp := by
  obtain ⟨oc, od, kV, doc, pm, an, cdv, ct, osl, rfl, lk, hcd⟩ := F.ex
  refine ⟨len, fun A outer s H args us vs Q E hr hgd e0 hb r hsp => ?_⟩
  have hl := len _ _ _ _ hsp
  have kin : K.In s.heap := e0.mod.kin.keeps fun b o e => (e0.bs b o e).1
  have nol : s.heap.NoLimit := e0.mod.nolimit.keeps fun b o e => (e0.bs b o e).1
  have kinds : ∀ y ∈ ps.zip us, (defScope st).names.lookup y.1 = some .local ∨
      ((defScope st).names.lookup y.1 = some .cell ∧ ((cellsFrom (s.heap.objs.size + 1) (defScope st).names []).lookup y.1).isSome = true) := by
    rintro ⟨n, v⟩ hy
    rcases S.par n (List.of_mem_zip hy).1 with q | q
    · exact .inl q
    · exact .inr ⟨q, PySem.W.cellsFrom_some _ _ _ (.inl q)⟩
  refine codeAny_call_function hr.depth (kin _ _ lk) rfl S.co S.gen rfl (PySem.W.codeRec_of kin hcd) (hb _ _ _ _ (wpAny_newFunctionEnv_cells S.kind kinds fun env he s1 ic => ?_))
  subst he
  obtain ⟨t, ht, hq⟩ := hbody cdv A outer s H vs Q E (hr.deeper _) hgd hsp
  have I : Inv (cxOf (L2.CX P w) P w K mg base N qual (defScope st) f cdv A outer s H E) [] (start N vs) H s1 := inv_start S hr.hd e0 hl r ic
  refine ⟨nol.keeps ic.toInCall.keep, codeAny_func (wpAny_mono (ht.run [] s1 (start N vs) H _ I hq) (fun fl s2 hs => ?_) fun _ _ hs => hs)⟩
  match fl, hs with
  | .ret u, ⟨v, _, H2, J, rv, q⟩ => exact ⟨v, H2, J.os, J.bare, J.base, J.hok, rv, q⟩
  | .next, ⟨_, H2, J, q⟩ => exact ⟨.non, H2, J.os, J.bare, J.base, J.hok, rfl, q⟩
  | .brk, ⟨_, _, _, q⟩ => exact q.elim
  | .cont, ⟨_, _, _, q⟩ => exact q.elim
/-- .. as a head tells it -/
theorem fnG_ofD {P : Program} {w : World} {K : PySem.W.Frag} {mg : Str → Option Value} {base : Heap} {k : Nat} {f : Addr} {x qual : Str} {params : Arguments} {st : Stmt} {fd : FuncData} {N ps : List Str} {sp : Sp} (F : FunD K x qual params (defBody st) (defScope st) [] [] f fd) (S : FnScope N ps (defScope st))
    (len : ∀ vs H Q E, sp vs H Q E → vs.length = ps.length)
    (hbody : ∀ (cdv : Value) (A : Around) (outer : List Env) (s : Shared) (H : Hp) (vs : List V) (Q : VK) (E : XK), Room k (A.deeper (envOfC qual (defScope st) s.heap.objs.size f cdv)) → (A.deeper (envOfC qual (defScope st) s.heap.objs.size f cdv)).guards = some [] → sp vs H Q E →
      ∃ t, PSs (cxOf (L2.CX P w) P w K mg base N qual (defScope st) f cdv A outer s H E) (defBody st) t ∧ t { nx := fun _ H' => Q .non H', rt := Q } (start N vs) H) : FnG P w K mg base (k + 1) f fd ps sp := by
  obtain ⟨oc, od, dV, kV, doc, pm, an, cdv, ct, osl, rfl, lk, hcd, _, _⟩ := F.ex
  refine ⟨len, fun A outer s H args us vs Q E hr hgd e0 hb r hsp => ?_⟩
  have hl := len _ _ _ _ hsp
  have kin : K.In s.heap := e0.mod.kin.keeps fun b o e => (e0.bs b o e).1
  have nol : s.heap.NoLimit := e0.mod.nolimit.keeps fun b o e => (e0.bs b o e).1
  have kinds : ∀ y ∈ ps.zip us, (defScope st).names.lookup y.1 = some .local ∨
      ((defScope st).names.lookup y.1 = some .cell ∧ ((cellsFrom (s.heap.objs.size + 1) (defScope st).names []).lookup y.1).isSome = true) := by
    rintro ⟨n, v⟩ hy
    rcases S.par n (List.of_mem_zip hy).1 with q | q
    · exact .inl q
    · exact .inr ⟨q, PySem.W.cellsFrom_some _ _ _ (.inl q)⟩
  refine codeAny_call_function hr.depth (kin _ _ lk) rfl S.co S.gen rfl (PySem.W.codeRec_of kin hcd) (hb _ _ _ _ (wpAny_newFunctionEnv_cells S.kind kinds fun env he s1 ic => ?_))
  subst he
  obtain ⟨t, ht, hq⟩ := hbody cdv A outer s H vs Q E (hr.deeper _) hgd hsp
  have I : Inv (cxOf (L2.CX P w) P w K mg base N qual (defScope st) f cdv A outer s H E) [] (start N vs) H s1 := inv_start S hr.hd e0 hl r ic
  refine ⟨nol.keeps ic.toInCall.keep, codeAny_func (wpAny_mono (ht.run [] s1 (start N vs) H _ I hq) (fun fl s2 hs => ?_) fun _ _ hs => hs)⟩
  match fl, hs with
  | .ret u, ⟨v, _, H2, J, rv, q⟩ => exact ⟨v, H2, J.os, J.bare, J.base, J.hok, rv, q⟩
  | .next, ⟨_, H2, J, q⟩ => exact ⟨.non, H2, J.os, J.bare, J.base, J.hok, rfl, q⟩
  | .brk, ⟨_, _, _, q⟩ => exact q.elim
  | .cont, ⟨_, _, _, q⟩ => exact q.elim
end Z
end
section
set_option Elab.async false
set_option linter.all false
set_option maxRecDepth 100000
namespace Z
open PySem L2 PyProof.Rows

/-! ## the small language and what it means -/
/-- a loop's target -/
inductive Tg where
  | nm (i : Nat)
  | tp (l : List Nat)
mutual
inductive E where
  | var (i : Nat)
  | con (d : D)
  | glo (g : Nat)
  | bin (o : Bop) (a b : E)
  | neg (a : E)
  | cmp (o : Cop) (a b : E)
  | chn (o p : Cop) (a b c : E)
  | and (a b : E)
  | or (a b : E)
  | not (a : E)
  | ife (c a b : E)
  | tup (es : Es)
  | lst (es : Es)
  | dnew
  | idx (a b : E)
  | slc (a : E) (lo hi : Oe)
  | fld (a : E) (f : Nat)
  | call (f : Nat) (es : Es)
  | pcall (f : Nat) (es : Es)
  | meth (o : E) (m : Nat) (es : Es)
  | make (c : Nat) (es : Es)
  | blt (b : Blt) (es : Es)
  | bm (b : Bm) (o : E) (es : Es)
  | lc (it : It) (tg : Tg) (own : List Nat) (cond : Oe) (elt : E)
  | fmt (e : E)
  | fstr (es : Es)
  | any
inductive Es where
  | nil
  | cons (e : E) (r : Es)
inductive Oe where
  | no
  | yes (e : E)
inductive It where
  | seq (e : E)
  | rng1 (e : E)
  | rng2 (a b : E)
  | enm (e : E)
end
/-- what the text's defs and classes are -/
structure Gm where
  np : Nat → Nat
  meth : Nat → Nat → Option Nat
  init : Nat → Option Nat
  hasF : Nat → Nat → Bool
  exc : Nat → Option (List Nat)
  isx : Nat → Nat → Bool
  glob : Nat → D
abbrev Cl := Nat → List D → Hs → R D
mutual
def clean : D → Bool
  | .tup ds => cleans ds
  | .ref _ => false
  | _ => true
def cleans : List D → Bool
  | [] => true
  | d :: r => clean d && cleans r
end
def cleanF : List (Nat × D) → Bool
  | [] => true
  | (_, d) :: r => clean d && cleanF r
def cleanK : List (D × D) → Bool
  | [] => true
  | (k, d) :: r => clean d && cleanK r
mutual
/-- all of it so many slots further on -/
def shD (k : Nat) : D → D
  | .ref n => .ref (n + k)
  | .tup ds => .tup (shDs k ds)
  | d => d
def shDs (k : Nat) : List D → List D
  | [] => []
  | d :: r => shD k d :: shDs k r
end
def shF (k : Nat) : List (Nat × D) → List (Nat × D)
  | [] => []
  | (i, d) :: r => (i, shD k d) :: shF k r
def shK (k : Nat) : List (D × D) → List (D × D)
  | [] => []
  | (i, d) :: r => (i, shD k d) :: shK k r
def shO (k : Nat) : Ob → Ob
  | .lst ds => .lst (shDs k ds)
  | .frz ds => .frz (shDs k ds)
  | .dic ks => .dic (shK k ks)
  | .ins c fs => .ins c (shF k fs)
def shM (k : Nat) : List (Nat × Ob) → List (Nat × Ob) → List (Nat × Ob)
  | [], m => m
  | (i, o) :: r, m => (i + k, shO k o) :: shM k r m
/-- a heap behind a heap -/
def Hs.app (h h1 : Hs) : Hs := ⟨shM h.n h1.m h.m, h.n + h1.n⟩
/-- a call that is handed nothing of the heap: its own heap comes behind ours -/
def pureCall (C : Cl) (f : Nat) (ds : List D) (h : Hs) : R D :=
  if cleans ds then
    match C f ds Hs.empty with
    | .ok d h' => if clean d then .ok d h else .ok (shD h.n d) (h.app h')
    | .exc c fs _ => if cleanF fs then .exc c fs h else .bad
    | .bad => .bad
  else .bad
def ckargs (n : Nat) (ds : List D) : Bool := Nat.beq ds.length n
/-- what a loop walks -/
inductive Src where
  | tup (ds : List D)
  | lst (n : Nat)
  | rng (lo : Int) (n : Nat)
  | etup (ds : List D)
  | elst (n : Nat)
/-- the i-th item: bad, at the end, or there -/
def Src.item (h : Hs) : Src → Nat → Option (Option D)
  | .tup ds, i => some ds[i]?
  | .rng lo n, i => some (if i < n then some (.int (lo + i)) else none)
  | .lst n, i => match h.get n with
    | some (.lst ds) => some ds[i]?
    | some (.frz ds) => some ds[i]?
    | _ => none
  | .etup ds, i => some (ds[i]?.map fun d => .tup [.int i, d])
  | .elst n, i => match h.get n with
    | some (.lst ds) => some (ds[i]?.map fun d => .tup [.int i, d])
    | some (.frz ds) => some (ds[i]?.map fun d => .tup [.int i, d])
    | _ => none
def tgl (d : List D) : List Nat → Ev → Option Ev
  | [], σ => match d with
    | [] => some σ
    | _ => none
  | i :: r, σ => match d with
    | x :: ds => tgl ds r (σ.set i (some x))
    | [] => none
def tgset (h : Hs) : Tg → D → Ev → Option Ev
  | .nm i, d, σ => some (σ.set i (some d))
  | .tp l, d, σ => match seqOf h d with
    | some ds => tgl ds l σ
    | none => none
def wipeD (σ : Ev) : List Nat → Ev
  | [] => σ
  | v :: vs => (wipeD σ vs).set v none
/-- [elt for tg in src if cond] -/
def compN (cond : ST) (elt : SE) (src : Src) (tg : Tg) (σ : Ev) : Nat → Nat → List D → Hs → R (List D)
  | 0, _, _, _ => .bad
  | fuel + 1, i, acc, h => match src.item h i with
    | none => .bad
    | some none => .ok acc h
    | some (some d) => match tgset h tg d σ with
      | none => .bad
      | some σ' => match cond σ' h with
        | .ok true h1 => match elt σ' h1 with
          | .ok x h2 => if acc.length < big then compN cond elt src tg σ fuel (i + 1) (acc ++ [x]) h2 else .bad
          | _ => .bad
        | .ok false h1 => compN cond elt src tg σ fuel (i + 1) acc h1
        | _ => .bad
def loopFuel : Nat := 1000000
def srcOf (h : Hs) : D → Option Src
  | .tup ds => some (.tup ds)
  | .ref n => match h.get n with
    | some (.lst _) => some (.lst n)
    | some (.frz _) => some (.lst n)
    | _ => none
  | _ => none
def esrcOf (h : Hs) : D → Option Src
  | .tup ds => some (.etup ds)
  | .ref n => match h.get n with
    | some (.lst _) => some (.elst n)
    | some (.frz _) => some (.elst n)
    | _ => none
  | _ => none
def smallI (i : Int) : Bool := decide (-1000000000000 ≤ i ∧ i ≤ 1000000000000)
def valT (f : SE) : ST := fun σ h => (f σ h).bind fun d h1 => match tru h1 d with
  | some b => .ok b h1
  | none => .bad
def optI (f : SE) : Ev → Hs → R (Option Int) := fun σ h => (f σ h).bind fun d h1 => match d with
  | .int i => .ok (some i) h1
  | _ => .bad
section
variable (G : Gm) (C : Cl)
def sVar (i : Nat) : SE := fun σ h => match σ[i]? with
  | some (some d) => .ok d h
  | _ => .bad
def sBin (o : Bop) (a b : SE) : SE := fun σ h => (a σ h).bind fun x h1 => (b σ h1).bind fun y h2 => binop o x y h2
def sNeg (a : SE) : SE := fun σ h => (a σ h).bind fun x h1 => match x with
  | .int i => .ok (.int (-i)) h1
  | _ => .bad
def sCmp (o : Cop) (a b : SE) : SE := fun σ h => (a σ h).bind fun x h1 => (b σ h1).bind fun y h2 => cmpop o x y h2
def tCmpB (o : Cop) (a b : SE) : ST := fun σ h => (a σ h).bind fun x h1 => (b σ h1).bind fun y h2 => match cmpv h2 o x y with
  | some b => .ok b h2
  | none => .bad
def sChn (o p : Cop) (a b c : SE) : SE := fun σ h => (a σ h).bind fun x h1 => (b σ h1).bind fun y h2 => match cmpv h2 o x y with
  | some true => (c σ h2).bind fun z h3 => cmpop p y z h3
  | some false => .ok (.bl false) h2
  | none => .bad
def sAnd (a b : SE) : SE := fun σ h => (a σ h).bind fun x h1 => match x with
  | .bl true => b σ h1
  | .bl false => .ok (.bl false) h1
  | _ => .bad
def sOr (a b : SE) : SE := fun σ h => (a σ h).bind fun x h1 => match x with
  | .bl true => .ok (.bl true) h1
  | .bl false => b σ h1
  | _ => .bad
def sNot (a : SE) : SE := fun σ h => (a σ h).bind fun x h1 => match x with
  | .bl b => .ok (.bl (!b)) h1
  | _ => .bad
def tAndB (a b : ST) : ST := fun σ h => (a σ h).bind fun x h1 => match x with
  | true => b σ h1
  | false => .ok false h1
def tOrB (a b : ST) : ST := fun σ h => (a σ h).bind fun x h1 => match x with
  | true => .ok true h1
  | false => b σ h1
def tNotB (a : ST) : ST := fun σ h => (a σ h).bind fun x h1 => .ok (!x) h1
def sIfe (c : ST) (a b : SE) : SE := fun σ h => (c σ h).bind fun x h1 => match x with
  | true => a σ h1
  | false => b σ h1
def sTup (a : SA) : SE := fun σ h => (a σ h).bind fun ds h1 => if ds.length ≤ big then .ok (.tup ds) h1 else .bad
def sLst (a : SA) : SE := fun σ h => (a σ h).bind fun ds h1 => if ds.length ≤ big then .ok (.ref h1.n) (h1.new (.lst ds)) else .bad
def sIdx (a b : SE) : SE := fun σ h => (a σ h).bind fun x h1 => (b σ h1).bind fun y h2 => idxop x y h2
def sSlc (a : SE) (lo hi : Ev → Hs → R (Option Int)) : SE := fun σ h => (a σ h).bind fun x h1 => (lo σ h1).bind fun l h2 => (hi σ h2).bind fun u h3 => slcop x l u h3
def fldop (f : Nat) (d : D) (h : Hs) : R D := match d with
  | .ref n => match h.get n with
    | some (.ins c fs) => if G.hasF c f then (match fget fs f with | some v => .ok v h | none => .bad) else .bad
    | _ => .bad
  | _ => .bad
def sFld (a : SE) (f : Nat) : SE := fun σ h => (a σ h).bind fun x h1 => fldop G f x h1
def sCall (f : Nat) (a : SA) : SE := fun σ h => (a σ h).bind fun ds h1 => if ckargs (G.np f) ds then C f ds h1 else .bad
def sPure (f : Nat) (a : SA) : SE := fun σ h => (a σ h).bind fun ds h1 => if ckargs (G.np f) ds then pureCall C f ds h1 else .bad
def sMeth (o : SE) (m : Nat) (a : SA) : SE := fun σ h => (o σ h).bind fun x h1 => match x with
  | .ref n => match h1.get n with
    | some (.ins c _) => match G.meth c m with
      | some f => (a σ h1).bind fun ds h2 => if ckargs (G.np f) (.ref n :: ds) then C f (.ref n :: ds) h2 else .bad
      | none => .bad
    | _ => .bad
  | _ => .bad
def sMake (c : Nat) (a : SA) : SE := fun σ h => (a σ h).bind fun ds h1 => match G.init c with
  | some f => if ckargs (G.np f) (.ref h1.n :: ds) then (C f (.ref h1.n :: ds) (h1.new (.ins c []))).bind fun d h2 => match d with
    | .non => .ok (.ref h1.n) h2
    | _ => .bad else .bad
  | none => .bad
def sBlt (b : Blt) (a : SA) : SE := fun σ h => (a σ h).bind fun ds h1 => bltop b ds h1
/-- a thing as an f-string has it -/
def fmtTxt : D → Option (List Nat)
  | .non => some [78, 111, 110, 101]
  | .int i => if i.natAbs.log2 < 1920 then some (numText i) else none
  | .str l => if l.length ≤ big then some l else none
  | _ => none
def sFmt (e : SE) : SE := fun σ h => (e σ h).bind fun d h1 => match fmtTxt d with
  | some l => .ok (.str l) h1
  | none => .bad
def sJoin (e : SE) (f : List Nat → SE) (acc : List Nat) : SE := fun σ h => (e σ h).bind fun d h1 => match d with
  | .str l => if acc.length + l.length ≤ big then f (acc ++ l) σ h1 else .bad
  | _ => .bad
def recvL (h : Hs) : D → Bool
  | .ref n => match h.get n with
    | some (.lst _) => true
    | _ => false
  | _ => false
def sBm (b : Bm) (o : SE) (a : SA) : SE := fun σ h => (o σ h).bind fun x h1 => if recvL h1 x then (a σ h1).bind fun ds h2 => bmop b x ds h2 else .bad
def sLc (it : Ev → Hs → R Src) (tg : Tg) (own : List Nat) (cond : ST) (elt : SE) : SE := fun σ h => (it σ h).bind fun src h1 => (compN cond elt src tg (wipeD σ own) loopFuel 0 [] h1).bind fun ds h2 => .ok (.ref h2.n) (h2.new (.lst ds))
mutual
/-- an expression's value, and its truth -/
def evE : E → SE × ST
  | .var i => let f := sVar i; (f, valT f)
  | .con d => let f : SE := fun _ h => .ok d h; (f, valT f)
  | .glo g => let f : SE := fun _ h => .ok (G.glob g) h; (f, valT f)
  | .bin o a b => let f := sBin o (evE a).1 (evE b).1; (f, valT f)
  | .neg a => let f := sNeg (evE a).1; (f, valT f)
  | .cmp o a b => (sCmp o (evE a).1 (evE b).1, tCmpB o (evE a).1 (evE b).1)
  | .chn o p a b c => let f := sChn o p (evE a).1 (evE b).1 (evE c).1; (f, valT f)
  | .and a b => (sAnd (evE a).1 (evE b).1, tAndB (evE a).2 (evE b).2)
  | .or a b => (sOr (evE a).1 (evE b).1, tOrB (evE a).2 (evE b).2)
  | .not a => (sNot (evE a).1, tNotB (evE a).2)
  | .ife c a b => let f := sIfe (evE c).2 (evE a).1 (evE b).1; (f, valT f)
  | .tup es => let f := sTup (evAs es); (f, valT f)
  | .lst es => let f := sLst (evAs es); (f, valT f)
  | .dnew => let f : SE := fun _ h => .ok (.ref h.n) (h.new (.dic [])); (f, valT f)
  | .idx a b => let f := sIdx (evE a).1 (evE b).1; (f, valT f)
  | .slc a lo hi => let f := sSlc (evE a).1 (evO lo).1 (evO hi).1; (f, valT f)
  | .fld a x => let f := sFld G (evE a).1 x; (f, valT f)
  | .call x es => let f := sCall G C x (evAs es); (f, valT f)
  | .pcall x es => let f := sPure G C x (evAs es); (f, valT f)
  | .meth o m es => let f := sMeth G C (evE o).1 m (evAs es); (f, valT f)
  | .make c es => let f := sMake G C c (evAs es); (f, valT f)
  | .blt b es => let f := sBlt b (evAs es); (f, valT f)
  | .bm b o es => let f := sBm b (evE o).1 (evAs es); (f, valT f)
  | .lc it tg own cond elt => let f := sLc (evI it) tg own (evO cond).2 (evE elt).1; (f, valT f)
  | .fmt e => let f := sFmt (evE e).1; (f, valT f)
  | .fstr es => let f := evJ es []; (f, valT f)
  | .any => (fun _ _ => .bad, fun _ _ => .bad)
def evJ : Es → List Nat → SE
  | .nil => fun acc _ h => .ok (.str acc) h
  | .cons e r => sJoin (evE e).1 (evJ r)
def evAs : Es → SA
  | .nil => fun _ h => .ok [] h
  | .cons e r => fun σ h => ((evE e).1 σ h).bind fun d h1 => (evAs r σ h1).bind fun ds h2 => .ok (d :: ds) h2
/-- an optional part: as a slice's bound, as a condition -/
def evO : Oe → (Ev → Hs → R (Option Int)) × ST
  | .no => (fun _ h => .ok none h, fun _ h => .ok true h)
  | .yes e => (optI (evE e).1, (evE e).2)
def evI : It → Ev → Hs → R Src
  | .seq e => fun σ h => ((evE e).1 σ h).bind fun d h1 => match srcOf h1 d with
    | some s => .ok s h1
    | none => .bad
  | .enm e => fun σ h => ((evE e).1 σ h).bind fun d h1 => match esrcOf h1 d with
    | some s => .ok s h1
    | none => .bad
  | .rng1 e => fun σ h => ((evE e).1 σ h).bind fun d h1 => match d with
    | .int j => if smallI j then .ok (.rng 0 j.toNat) h1 else .bad
    | _ => .bad
  | .rng2 a b => fun σ h => ((evE a).1 σ h).bind fun d h1 => ((evE b).1 σ h1).bind fun e h2 => match d, e with
    | .int i, .int j => if smallI i && smallI j then .ok (.rng i (j - i).toNat) h2 else .bad
    | _, _ => .bad
end
end

/-! ## statements -/
/-- a suite behind except: what it hands back, by the class and the fields of the exception -/
inductive XI where
  | fld (f : Nat)
  | con (d : D)
inductive XR where
  | one (i : XI)
  | tup (l : List XI)
  | lst (l : List XI)
inductive Su where
  | ret (r : XR)
  | iff (cs : List Nat) (r : XR) (s : Su)
mutual
inductive S where
  | set (i : Nat) (e : E)
  | unp (l : List Nat) (e : E)
  | setF (o : E) (f : Nat) (e : E)
  | setI (o i e : E)
  | aug (i : Nat) (o : Bop) (e : E)
  | augF (a : E) (f : Nat) (o : Bop) (e : E)
  | expr (e : E)
  | ret (e : E)
  | retN
  | pass
  | brk
  | cnt
  | cond (c : E) (t e : Ss)
  | whl (c : E) (b : Ss)
  | each (tg : Tg) (it : It) (b : Ss)
  | raise_ (c : Nat) (es : Es)
  | try_ (b : Ss) (c : Nat) (i : Nat) (su : Su)
  | any
inductive Ss where
  | nil
  | cons (s : S) (r : Ss)
end
abbrev SX := Ev → Hs → RS
def RS.then (r : RS) (f : Ev → Hs → RS) : RS := match r with
  | .nx σ h => f σ h
  | r => r
/-- a value, then what is done with it -/
def R.thenS {α : Type} (r : R α) (σ : Ev) (f : α → Hs → RS) : RS := match r with
  | .ok a h => f a h
  | .exc c fs h => .exc c fs σ h
  | .bad => .bad
def whileN (c : ST) (b : SX) : Nat → Ev → Hs → RS
  | 0, _, _ => .bad
  | n + 1, σ, h => (c σ h).thenS σ fun t h1 => match t with
    | false => .nx σ h1
    | true => match b σ h1 with
      | .nx σ' h' => whileN c b n σ' h'
      | .ct σ' h' => whileN c b n σ' h'
      | .bk σ' h' => .nx σ' h'
      | r => r
def eachN (src : Src) (tg : Tg) (b : SX) : Nat → Nat → Ev → Hs → RS
  | 0, _, _, _ => .bad
  | n + 1, i, σ, h => match src.item h i with
    | none => .bad
    | some none => .nx σ h
    | some (some d) => match tgset h tg d σ with
      | none => .bad
      | some σ1 => match b σ1 h with
        | .nx σ' h' => eachN src tg b n (i + 1) σ' h'
        | .ct σ' h' => eachN src tg b n (i + 1) σ' h'
        | .bk σ' h' => .nx σ' h'
        | r => r
/-- a thing that an f-string takes -/
def fmtOk : D → Bool
  | .non => true
  | .int i => decide (i.natAbs.log2 < 1920)
  | .str l => decide (l.length ≤ 100000)
  | _ => false
def xItems (fs : List (Nat × D)) : List XI → Option (List D)
  | [] => some []
  | .fld f :: r => match fget fs f, xItems fs r with
    | some d, some ds => some (d :: ds)
    | _, _ => none
  | .con d :: r => (xItems fs r).map (d :: ·)
def XR.run (fs : List (Nat × D)) (h : Hs) : XR → RS
  | .one i => match xItems fs [i] with
    | some [d] => .rt d h
    | _ => .bad
  | .tup l => match xItems fs l with
    | some ds => if ds.length ≤ 1000 then .rt (.tup ds) h else .bad
    | none => .bad
  | .lst l => match xItems fs l with
    | some ds => if ds.length ≤ 1000 then .rt (.ref h.n) (h.new (.lst ds)) else .bad
    | none => .bad
def Su.run (G : Gm) (c : Nat) (fs : List (Nat × D)) (h : Hs) : Su → RS
  | .ret r => r.run fs h
  | .iff cs r s => if cs.all (G.isx c) then r.run fs h else s.run G c fs h
def excOk (G : Gm) (c : Nat) (fs : List (Nat × D)) : Bool := match G.exc c with
  | some l => fs.all fun p => l.contains p.1
  | none => false
def clsOf (h : Hs) : D → Option Nat
  | .ref n => match h.get n with
    | some (.ins c _) => some c
    | _ => none
  | _ => none
def setFop (G : Gm) (f : Nat) (d v : D) (h : Hs) : R Unit := match d with
  | .ref n => match h.get n with
    | some (.ins c fs) => if G.hasF c f && decide (fs.length < 800) then .ok () (h.set n (.ins c (fput fs f v))) else .bad
    | _ => .bad
  | _ => .bad
def dput (ks : List (D × D)) (k v : D) : List (D × D) :=
  if ks.any fun p => keq p.1 k then ks.map fun p => if keq p.1 k then (p.1, v) else p else ks ++ [(k, v)]
def setIop (o i v : D) (h : Hs) : R Unit := match o with
  | .ref n => match h.get n with
    | some (.lst ds) => match i with
      | .int j => match ixN ds.length j with
        | some k => .ok () (h.set n (.lst (ds.set k v)))
        | none => .bad
      | _ => .bad
    | some (.dic ks) => if (kOf i).isSome && decide (ks.length < big) then .ok () (h.set n (.dic (dput ks i v))) else .bad
    | _ => .bad
  | _ => .bad
section
variable (G : Gm) (C : Cl)
mutual
def evS : S → SX
  | .set i e => fun σ h => ((evE G C e).1 σ h).thenS σ fun d h1 => .nx (σ.set i (some d)) h1
  | .unp l e => fun σ h => ((evE G C e).1 σ h).thenS σ fun d h1 => match tgset h1 (.tp l) d σ with
    | some σ' => .nx σ' h1
    | none => .bad
  | .setF o f e => fun σ h => ((evE G C e).1 σ h).thenS σ fun v h1 => ((evE G C o).1 σ h1).thenS σ fun d h2 => (setFop G f d v h2).thenS σ fun _ h3 => .nx σ h3
  | .setI o i e => fun σ h => ((evE G C e).1 σ h).thenS σ fun v h1 => ((evE G C o).1 σ h1).thenS σ fun d h2 => ((evE G C i).1 σ h2).thenS σ fun k h3 => (setIop d k v h3).thenS σ fun _ h4 => .nx σ h4
  | .aug i o e => fun σ h => match σ[i]? with
    | some (some x) => ((evE G C e).1 σ h).thenS σ fun y h1 => match x, y with
      | .int _, .int _ => (binop o x y h1).thenS σ fun z h2 => .nx (σ.set i (some z)) h2
      | _, _ => .bad
    | _ => .bad
  | .augF a f o e => fun σ h => ((evE G C a).1 σ h).thenS σ fun d h1 => (fldop G f d h1).thenS σ fun x h2 => ((evE G C e).1 σ h2).thenS σ fun y h3 => match x, y with
    | .int _, .int _ => if decide (clsOf h1 d = clsOf h3 d) then (binop o x y h3).thenS σ fun z h4 => (setFop G f d z h4).thenS σ fun _ h5 => .nx σ h5 else .bad
    | _, _ => .bad
  | .expr e => fun σ h => ((evE G C e).1 σ h).thenS σ fun _ h1 => .nx σ h1
  | .ret e => fun σ h => ((evE G C e).1 σ h).thenS σ fun d h1 => .rt d h1
  | .retN => fun _ h => .rt .non h
  | .pass => fun σ h => .nx σ h
  | .brk => fun σ h => .bk σ h
  | .cnt => fun σ h => .ct σ h
  | .cond c t e => fun σ h => ((evE G C c).2 σ h).thenS σ fun b h1 => match b with
    | true => evSs t σ h1
    | false => evSs e σ h1
  | .whl c b => fun σ h => whileN (evE G C c).2 (evSs b) loopFuel σ h
  | .each tg it b => fun σ h => (evI G C it σ h).thenS σ fun src h1 => eachN src tg (evSs b) loopFuel 0 σ h1
  | .raise_ c es => fun σ h => (evAs G C es σ h).thenS σ fun ds h1 => match G.exc c with
    | some l => if ds.all fmtOk && Nat.beq ds.length l.length then .exc c (l.zip ds).reverse σ h1 else .bad
    | none => .bad
  | .try_ b c i su => fun σ h => match evSs b σ h with
    | .exc c' fs σ' h' => if excOk G c' fs && decide (i < σ'.length) then (if G.isx c' c then su.run G c' fs h' else .exc c' fs σ' h') else .bad
    | r => r
  | .any => fun _ _ => .bad
def evSs : Ss → SX
  | .nil => fun σ h => .nx σ h
  | .cons s r => fun σ h => (evS s σ h).then fun σ1 h1 => evSs r σ1 h1
end
structure Fn where
  np : Nat
  ns : Nat
  body : Ss
def startD (n : Nat) (ds : List D) : Ev := ds.map some ++ List.replicate (n - ds.length) none
def runFn (F : Fn) (ds : List D) (h : Hs) : R D := match evSs G C F.body (startD F.ns ds) h with
  | .nx _ h' => .ok .non h'
  | .rt d h' => .ok d h'
  | .exc c fs _ h' => .exc c fs h'
  | _ => .bad
end
/-- calls to a depth -/
def callN (G : Gm) (T : Nat → Option Fn) : Nat → Cl
  | 0 => fun _ _ _ => .bad
  | n + 1 => fun f ds h => match T f with
    | some F => if Nat.beq ds.length F.np then runFn G (callN G T n) F ds h else .bad
    | none => .bad
end Z
end
section
set_option Elab.async false
set_option linter.all false
set_option maxRecDepth 100000
set_option maxHeartbeats 1000000
namespace Z
open PySem L2 PyProof.Rows

/-! ## the text against the small language -/
structure Tb where
  fname : Nat → Option Str
  cname : Nat → Option Str
  gname : Nat → Option Str
  mname : Nat → Str
  xname : Nat → Option Str
  fld : Nat → Str
def visB (sc : Scope) (x : Str) : Bool := match sc.names.lookup x with
  | some .local => true
  | some .cell => true
  | some .free => true
  | _ => false
def locB (sc : Scope) (x : Str) : Bool := match sc.names.lookup x with
  | some .local => true
  | some .cell => true
  | _ => false
def freB (sc : Scope) (x : Str) : Bool := match sc.names.lookup x with
  | some .cell => true
  | some .free => true
  | _ => false
def glB (sc : Scope) (x : Str) : Bool := match sc.names.lookup x with
  | some .globalImplicit => true
  | _ => false
def nmB (x : Str) : Bool := !(x == ("__debug__" : Str)) && !(x == ("__classdict__" : Str)) && !decide (x = ("__name__" : Str))
def conB : D → Const → Bool
  | .non, .none => true
  | .bl b, .bool c => b == c
  | .int i, .int j => decide (i = j)
  | .str l, .str x => decide (x = ⟨l.toArray⟩)
  | _, _ => false
def bopB : Bop → Operator → Bool
  | .add, .Add => true | .sub, .Sub => true | .mul, .Mult => true | .fdiv, .FloorDiv => true | .mod, .Mod => true | .pow, .Pow => true
  | _, _ => false
def copB : Cop → CmpOp → Bool
  | .eq, .Eq => true | .ne, .NotEq => true | .lt, .Lt => true | .le, .LtE => true | .gt, .Gt => true | .ge, .GtE => true
  | .isin, .In => true | .notin, .NotIn => true | .is_, .Is => true | .isnot, .IsNot => true
  | _, _ => false
theorem bopB_op {o : Bop} {p : Operator} (h : bopB o p = true) : p = o.op := by cases o <;> cases p <;> first | rfl | cases h
theorem copB_op {o : Cop} {p : CmpOp} (h : copB o p = true) : p = o.op := by cases o <;> cases p <;> first | rfl | cases h
def Blt.name : Blt → Str
  | .len => "len" | .str => "str" | .int => "int" | .tuple => "tuple" | .list => "list" | .max => "max" | .abs => "abs"
/-- the promise of a def that the small language tells -/
def spF (N : Nm) (K : PySem.W.Frag) (g : List D → Hs → R D) (n : Nat) : Sp := fun vs H Q E => ∃ ρ h ds, RelH N K ρ h H ∧ Reps K ρ H ds vs ∧ ds.length = n ∧ ResE N K (fun c d _ H => E c d H) ρ H [] (g ds h) Q
structure Tab (T : Tb) (N : Nm) (G : Gm) (C : Cl) (P : Program) (w : World) (K : PySem.W.Frag) (mg : Str → Option Value) (base : Heap) (k : Nat) : Prop where
  fn : ∀ f x, T.fname f = some x → ∃ a fd ps, ps.length = G.np f ∧ FnG P w K mg base k a fd ps (spF N K (C f) (G.np f)) ∧ mg x = some (.ref a) ∧ PySem.W.keepIn K (.ref a) = true ∧ Binds K fd ps []
  meth : ∀ c m f, G.meth c m = some f → ∃ a fd ps, ps.length = G.np f ∧ FnG P w K mg base k a fd ps (spF N K (C f) (G.np f)) ∧ Cls K (N.cls c) ∧ Meth K (N.cls c) (T.mname m) a ∧ Binds K fd ps []
  mf : ∀ m i, N.fld i ≠ T.mname m
  fld : ∀ c f, G.hasF c f = true → Cls K (N.cls c) ∧ NoAttr K (N.cls c) (N.fld f)
  init : ∀ c f, G.init c = some f → ∃ a fd ps, ps.length = G.np f ∧ FnG P w K mg base k a fd ps (spF N K (C f) (G.np f)) ∧ Mk K (N.cls c) a ∧ Binds K fd ps []
  cn : ∀ c x, T.cname c = some x → mg x = some (.ref (N.cls c))
  glo : ∀ g x, T.gname g = some x → ∃ u v, mg x = some u ∧ RelV v u ∧ ∀ ρ H, Rep K ρ H (G.glob g) v
  nf : ∀ i, T.fld i = N.fld i
  blt : ∀ b : Blt, mg b.name = none
  rng : mg "range" = none
  enm : mg "enumerate" = none
structure Cxt (T : Tb) (N : Nm) (G : Gm) (C : Cl) (k : Nat) (nm : List Str) (X : Cx) (sc : Scope) (W : WX) : Prop where
  tab : Tab T N G C X.prog X.w X.K X.mg X.base k
  nm : X.N = nm
  nd : X.N.Nodup
  calm : X.calm = true
  room : Room (k + 1) X.A
  gd : X.A.guards = some []
  vis : ∀ x, visB sc x = true → Vis X.env.scope x
  gl : ∀ x, glB sc x = true → Gl X x
  loc : ∀ x, locB sc x = true → Loc X.env.scope x ∧ (X.fn x = true ∨ X.env.scope.names.lookup x = some .local)
  fre : ∀ x, freB sc x = true → X.env.scope.names.lookup x = some .cell ∨ X.env.scope.names.lookup x = some .free
  tk : Takes X W
section
variable {T : Tb} {N : Nm} {G : Gm} {C : Cl} {k : Nat} {nm : List Str} {X : Cx} {sc : Scope} {W : WX}
theorem Cxt.hu (c : Cxt T N G C k nm X sc W) : X.A.units + 65 < cLine := by have := c.room.un; omega

/-! ### quiet operations -/
theorem quiet_bin (o : Bop) (d e : D) (h : Hs) : quiet (binop o d e h) := by
  unfold binop
  repeat' split
  all_goals trivial
theorem quiet_cmp (o : Cop) (d e : D) (h : Hs) : quiet (cmpop o d e h) := by
  unfold cmpop
  split <;> trivial
theorem quiet_idx (d e : D) (h : Hs) : quiet (idxop d e h) := by
  unfold idxop
  repeat' split
  all_goals trivial
theorem quiet_slc (d : D) (l u : Option Int) (h : Hs) : quiet (slcop d l u h) := by
  unfold slcop
  repeat' split
  all_goals trivial
theorem quiet_blt (b : Blt) (ds : List D) (h : Hs) : quiet (bltop b ds h) := by
  unfold bltop
  repeat' split
  all_goals trivial
theorem quiet_bm (b : Bm) (d : D) (ds : List D) (h : Hs) : quiet (bmop b d ds h) := by
  unfold bmop
  repeat' split
  all_goals trivial

/-! ### tests from values -/
theorem q_val {e : Expr} {f : SE} (h : PE X e (tE N X.K W f)) (hp : plainT e = true) : PT X e (tT N X.K W (valT f)) := by
  refine PT.imp (fun σ H Q ⟨ρ, hh, σd, rel, en, q⟩ => ?_) (pt_truth h (true_of hp))
  refine ⟨ρ, hh, σd, rel, en, ResT.bindT q fun d1 h1 _ ρ1 H1 v g r q1 => ?_⟩
  cases ht : tru h1 d1 with
  | none => rw [ht] at q1; exact q1.elim
  | some b =>
    rw [ht] at q1
    exact ⟨b, tru_rep g.rel r ht, q1 ρ1 H1 (.refl g.rel)⟩

/-! ### expressions -/
theorem q_var (c : Cxt T N G C k nm X sc W) {i : Nat} {x : Str} {pos : Pos} (h1 : nm[i]? = some x) (h2 : visB sc x = true) (h3 : nmB x = true) : PE X (.Name x pos) (tE N X.K W (sVar i)) := by
  simp only [nmB, Bool.and_eq_true, Bool.not_eq_true'] at h3
  refine PE.imp (fun σ H Q ⟨ρ, hh, σd, rel, en, q⟩ => ?_) (pe_var (i := i) (by rw [c.nm]; exact h1) (c.vis x h2) h3.1.1 h3.1.2)
  unfold sVar at q
  split at q
  · rename_i d hd
    obtain ⟨v, hv, r⟩ := en.2 i d hd
    exact ⟨v, hv, q ρ H v (.refl rel) r⟩
  · exact q.elim
theorem q_con {d : D} {cc : Const} {j : Nat} {pos : Pos} (h : conB d cc = true) : PE X (.Constant cc j pos) (tE N X.K W fun _ h => .ok d h) := by
  cases d <;> cases cc <;> simp only [conB, Bool.false_eq_true, decide_eq_true_eq, beq_iff_eq] at h
  · exact PE.imp (fun σ H Q ⟨ρ, hh, σd, rel, en, q⟩ => q ρ H _ (.refl rel) .non) pe_non
  · subst h
    exact PE.imp (fun σ H Q ⟨ρ, hh, σd, rel, en, q⟩ => q ρ H _ (.refl rel) (.bl _)) pe_bl
  · subst h
    exact PE.imp (fun σ H Q ⟨ρ, hh, σd, rel, en, q⟩ => q ρ H _ (.refl rel) (.int _)) pe_int
  · subst h
    exact PE.imp (fun σ H Q ⟨ρ, hh, σd, rel, en, q⟩ => q ρ H _ (.refl rel) (.str _)) pe_str
theorem q_glo (c : Cxt T N G C k nm X sc W) {g : Nat} {x : Str} {pos : Pos} (h1 : T.gname g = some x) (h2 : glB sc x = true) (h3 : nmB x = true) : PE X (.Name x pos) (tE N X.K W fun _ h => .ok (G.glob g) h) := by
  simp only [nmB, Bool.and_eq_true, Bool.not_eq_true'] at h3
  obtain ⟨u, v, hm, r, rp⟩ := c.tab.glo g x h1
  exact PE.imp (fun σ H Q ⟨ρ, hh, σd, rel, en, q⟩ => q ρ H _ (.refl rel) (rp ρ H)) (pe_glob (c.gl x h2) hm r h3.1.1)
variable {ea eb ec : Expr} {fa fb fc : SE} {pos : Pos}
theorem q_bin {o : Bop} {p : Operator} (hp : bopB o p = true) (ha : PE X ea (tE N X.K W fa)) (hb : PE X eb (tE N X.K W fb)) : PE X (.BinOp ea p eb pos) (tE N X.K W (sBin o fa fb)) := by
  cases bopB_op hp
  exact PE.imp (fun σ H Q ⟨ρ, hh, σd, rel, en, q⟩ => ⟨ρ, hh, σd, rel, en, ResE.bindE q fun d1 h1 _ ρ1 H1 v1 g1 r1 q1 => ⟨ρ1, h1, σd, g1.rel, en.mon g1.mon, ResE.bindE q1 fun d2 h2 _ ρ2 H2 v2 g2 r2 q2 =>
    ⟨ρ2, h2, d1, d2, g2.rel, r1.mon g2.mon, r2, q2.toV (quiet_bin o d1 d2 h2)⟩⟩⟩) (pe_op (op_bin (N := N) o) ha hb)
theorem q_neg (ha : PE X ea (tE N X.K W fa)) : PE X (.UnaryOp .USub ea pos) (tE N X.K W (sNeg fa)) :=
  PE.imp (fun σ H Q ⟨ρ, hh, σd, rel, en, q⟩ => ⟨ρ, hh, σd, rel, en, ResE.bindE q fun d1 h1 _ ρ1 H1 v1 g1 r1 q1 => by
    cases d1 <;> try exact q1.elim
    cases r1.int_inv
    exact ⟨_, rfl, q1 ρ1 H1 _ (.refl g1.rel) (.int _)⟩⟩) (pe_un un_neg ha)
theorem q_cmp (c : Cxt T N G C k nm X sc W) {o : Cop} {p : CmpOp} (hp : copB o p = true) (hm : behindInMarks p eb = false) (ha : PE X ea (tE N X.K W fa)) (hb : PE X eb (tE N X.K W fb)) :
    PE X (.Compare ea [p] [eb] pos) (tE N X.K W (sCmp o fa fb)) ∧ PT X (.Compare ea [p] [eb] pos) (tT N X.K W (tCmpB o fa fb)) := by
  cases copB_op hp
  refine ⟨PE.imp (fun σ H Q ⟨ρ, hh, σd, rel, en, q⟩ => ⟨ρ, hh, σd, rel, en, ResE.bindE q fun d1 h1 _ ρ1 H1 v1 g1 r1 q1 => ⟨ρ1, h1, σd, g1.rel, en.mon g1.mon, ResE.bindE q1 fun d2 h2 _ ρ2 H2 v2 g2 r2 q2 =>
    ⟨ρ2, h2, d1, d2, g2.rel, r1.mon g2.mon, r2, q2.toV (quiet_cmp o d1 d2 h2)⟩⟩⟩) (pe_cmpR (op_cmp (N := N) o c.hu) ha hb hm), ?_⟩
  refine PT.imp (fun σ H Q ⟨ρ, hh, σd, rel, en, q⟩ => ⟨ρ, hh, σd, rel, en, ResT.bindT q fun d1 h1 _ ρ1 H1 v1 g1 r1 q1 => ⟨ρ1, h1, σd, g1.rel, en.mon g1.mon, ResT.bindT q1 fun d2 h2 _ ρ2 H2 v2 g2 r2 q2 =>
    ⟨ρ2, h2, d1, d2, g2.rel, r1.mon g2.mon, r2, ?_⟩⟩⟩) (pt_cmpR (op_cmp (N := N) o c.hu) ha hb hm)
  unfold cmpop
  cases hc : cmpv h2 o d1 d2 with
  | none => rw [hc] at q2; exact q2.elim
  | some b =>
    rw [hc] at q2
    exact fun ρ3 H3 v g3 r3 => ⟨b, r3.bl_inv, q2 ρ3 H3 g3⟩
theorem q_chn (c : Cxt T N G C k nm X sc W) {o o' : Cop} {p p' : CmpOp} (hp : copB o p = true) (hp' : copB o' p' = true) (hm : lastMarks [p, p'] [eb, ec] = false) (ha : PE X ea (tE N X.K W fa)) (hb : PE X eb (tE N X.K W fb)) (hc : PE X ec (tE N X.K W fc)) :
    PE X (.Compare ea [p, p'] [eb, ec] pos) (tE N X.K W (sChn o o' fa fb fc)) ∧ PT X (.Compare ea [p, p'] [eb, ec] pos) (tT N X.K W (valT (sChn o o' fa fb fc))) := by
  cases copB_op hp
  cases copB_op hp'
  constructor
  · refine PE.imp (fun σ H Q ⟨ρ, hh, σd, rel, en, q⟩ => ⟨ρ, hh, σd, rel, en, ResE.bindE q fun d1 h1 _ ρ1 H1 v1 g1 r1 q1 => ⟨ρ1, h1, σd, g1.rel, en.mon g1.mon, ResE.bindE q1 fun d2 h2 _ ρ2 H2 v2 g2 r2 q2 =>
      ⟨ρ2, h2, d1, d2, g2.rel, r1.mon g2.mon, r2, ?_⟩⟩⟩) (pe_chain (op_cmp (N := N) o c.hu) (op_cmp (N := N) o' c.hu) ha hb hc hm)
    unfold cmpop
    cases hx : cmpv h2 o d1 d2 with
    | none => rw [hx] at q2; exact q2.elim
    | some b =>
      rw [hx] at q2
      intro ρ3 H3 v g3 r3
      refine ⟨b, r3.bl_inv, ?_⟩
      cases b with
      | false => exact iteF (q2 ρ3 H3 _ g3 (.bl false))
      | true =>
        have q3 := ResE.shift g3 q2
        refine iteT ⟨ρ3, h2, σd, g3.rel, (en.mon (g1.mon.trans g2.mon)).mon g3.mon, ResE.bindE q3 fun d4 h4 _ ρ4 H4 v4 g4 r4 q4 => ⟨ρ4, h4, d2, d4, g4.rel, (r2.mon g3.mon).mon g4.mon, r4, q4.toV (quiet_cmp o' d2 d4 h4)⟩⟩
  · refine PT.imp (fun σ H Q ⟨ρ, hh, σd, rel, en, q⟩ => ?_) (pt_chain (op_cmp (N := N) o c.hu) (op_cmp (N := N) o' c.hu) ha hb hc hm)
    -- the value, then its truth
    have q0 : ResE N X.K W ρ H σ (sChn o o' fa fb fc σd hh) (fun v H => ∃ b, v = .bl b ∧ Q b H) := by
      unfold valT at q
      cases hs : sChn o o' fa fb fc σd hh with
      | bad => rw [hs] at q; exact q
      | exc => rw [hs] at q; exact q
      | ok d h' =>
        rw [hs] at q
        intro ρ' H' v g r
        have hb' : ∃ b, d = .bl b := by
          unfold sChn at hs
          cases h1 : fa σd hh with
          | bad => rw [h1] at hs; cases hs
          | exc => rw [h1] at hs; cases hs
          | ok x1 hh1 =>
            rw [h1, R.bind_ok] at hs
            cases h2 : fb σd hh1 with
            | bad => rw [h2] at hs; cases hs
            | exc => rw [h2] at hs; cases hs
            | ok x2 hh2 =>
              rw [h2, R.bind_ok] at hs
              cases h3 : cmpv hh2 o x1 x2 with
              | none => rw [h3] at hs; cases hs
              | some b =>
                rw [h3] at hs
                cases b with
                | false => cases hs; exact ⟨_, rfl⟩
                | true =>
                  cases h4 : fc σd hh2 with
                  | bad => simp only [h4, R.bind_bad] at hs; cases hs
                  | exc => simp only [h4, R.bind_exc] at hs; cases hs
                  | ok x3 hh3 =>
                    simp only [h4, R.bind_ok] at hs
                    unfold cmpop at hs
                    split at hs
                    · cases hs; exact ⟨_, rfl⟩
                    · cases hs
        obtain ⟨b, rfl⟩ := hb'
        exact ⟨b, r.bl_inv, q ρ' H' g⟩
    refine ⟨ρ, hh, σd, rel, en, ResE.bindE q0 fun d1 h1 _ ρ1 H1 v1 g1 r1 q1 => ⟨ρ1, h1, σd, g1.rel, en.mon g1.mon, ResE.bindE q1 fun d2 h2 _ ρ2 H2 v2 g2 r2 q2 =>
      ⟨ρ2, h2, d1, d2, g2.rel, r1.mon g2.mon, r2, ?_⟩⟩⟩
    unfold cmpop
    cases hx : cmpv h2 o d1 d2 with
    | none => rw [hx] at q2; exact q2.elim
    | some b =>
      rw [hx] at q2
      intro ρ3 H3 v g3 r3
      refine ⟨b, r3.bl_inv, ?_⟩
      cases b with
      | false => exact iteF (q2 ρ3 H3 _ g3 (.bl false))
      | true =>
        have q3 := ResE.shift g3 q2
        refine iteT ⟨ρ3, h2, σd, g3.rel, (en.mon (g1.mon.trans g2.mon)).mon g3.mon, ResE.bindE q3 fun d4 h4 _ ρ4 H4 v4 g4 r4 q4 => ⟨ρ4, h4, d2, d4, g4.rel, (r2.mon g3.mon).mon g4.mon, r4, q4.toV (quiet_cmp o' d2 d4 h4)⟩⟩
variable {ta tb tc : ST}
theorem q_and {rest : List Expr} (ha : PE X ea (tE N X.K W fa)) (hb : PE X (.BoolOp .And (eb :: rest) pos) (tE N X.K W fb)) : PE X (.BoolOp .And (ea :: eb :: rest) pos) (tE N X.K W (sAnd fa fb)) := by
  refine PE.imp (fun σ H Q ⟨ρ, hh, σd, rel, en, q⟩ => ⟨ρ, hh, σd, rel, en, ResE.bindE q fun d1 h1 _ ρ1 H1 v1 g1 r1 q1 => ?_⟩) (pe_and ha hb)
  cases d1 <;> try exact q1.elim
  rename_i b _
  refine ⟨b, r1.bl_inv, ?_⟩
  cases b with
  | false => exact iteF (q1 ρ1 H1 _ (.refl g1.rel) (.bl false))
  | true => exact iteT ⟨ρ1, h1, σd, g1.rel, en.mon g1.mon, q1⟩
theorem q_or {rest : List Expr} (ha : PE X ea (tE N X.K W fa)) (hb : PE X (.BoolOp .Or (eb :: rest) pos) (tE N X.K W fb)) : PE X (.BoolOp .Or (ea :: eb :: rest) pos) (tE N X.K W (sOr fa fb)) := by
  refine PE.imp (fun σ H Q ⟨ρ, hh, σd, rel, en, q⟩ => ⟨ρ, hh, σd, rel, en, ResE.bindE q fun d1 h1 _ ρ1 H1 v1 g1 r1 q1 => ?_⟩) (pe_or ha hb)
  cases d1 <;> try exact q1.elim
  rename_i b _
  refine ⟨b, r1.bl_inv, ?_⟩
  cases b with
  | true => exact iteT (q1 ρ1 H1 _ (.refl g1.rel) (.bl true))
  | false => exact iteF ⟨ρ1, h1, σd, g1.rel, en.mon g1.mon, q1⟩
theorem q_not (ha : PE X ea (tE N X.K W fa)) : PE X (.UnaryOp .Not ea pos) (tE N X.K W (sNot fa)) := by
  refine PE.imp (fun σ H Q ⟨ρ, hh, σd, rel, en, q⟩ => ⟨ρ, hh, σd, rel, en, ResE.bindE q fun d1 h1 _ ρ1 H1 v1 g1 r1 q1 => ?_⟩) (pe_not ha)
  cases d1 <;> try exact q1.elim
  rename_i b _
  exact ⟨b, r1.bl_inv, q1 ρ1 H1 _ (.refl g1.rel) (.bl _)⟩
theorem q_andT {rest : List Expr} (ha : PT X ea (tT N X.K W ta)) (hb : PW X (.BoolOp .And (eb :: rest) pos) (tT N X.K W tb)) : PW X (.BoolOp .And (ea :: eb :: rest) pos) (tT N X.K W (tAndB ta tb)) := by
  refine PW.imp (fun σ H Q ⟨ρ, hh, σd, rel, en, q⟩ => ⟨ρ, hh, σd, rel, en, ResT.bindTT q fun b h1 _ ρ1 H1 g1 q1 => ?_⟩) (pw_and ha hb)
  cases b with
  | false => exact iteF (q1 ρ1 H1 (.refl g1.rel))
  | true => exact iteT ⟨ρ1, h1, σd, g1.rel, en.mon g1.mon, q1⟩
theorem q_orT {rest : List Expr} (ha : PT X ea (tT N X.K W ta)) (hb : PW X (.BoolOp .Or (eb :: rest) pos) (tT N X.K W tb)) : PW X (.BoolOp .Or (ea :: eb :: rest) pos) (tT N X.K W (tOrB ta tb)) := by
  refine PW.imp (fun σ H Q ⟨ρ, hh, σd, rel, en, q⟩ => ⟨ρ, hh, σd, rel, en, ResT.bindTT q fun b h1 _ ρ1 H1 g1 q1 => ?_⟩) (pw_or ha hb)
  cases b with
  | true => exact iteT (q1 ρ1 H1 (.refl g1.rel))
  | false => exact iteF ⟨ρ1, h1, σd, g1.rel, en.mon g1.mon, q1⟩
theorem q_notT (ha : PT X ea (tT N X.K W ta)) : PT X (.UnaryOp .Not ea pos) (tT N X.K W (tNotB ta)) :=
  PT.imp (fun σ H Q ⟨ρ, hh, σd, rel, en, q⟩ => ⟨ρ, hh, σd, rel, en, ResT.bindTT q fun b h1 _ ρ1 H1 g1 q1 => q1 ρ1 H1 (.refl g1.rel)⟩) (pt_not ha)
theorem q_ife (hc : PT X ec (tT N X.K W tc)) (ha : PE X ea (tE N X.K W fa)) (hb : PE X eb (tE N X.K W fb)) : PE X (.IfExp ec ea eb pos) (tE N X.K W (sIfe tc fa fb)) := by
  refine PE.imp (fun σ H Q ⟨ρ, hh, σd, rel, en, q⟩ => ⟨ρ, hh, σd, rel, en, ResE.bindET q fun b h1 _ ρ1 H1 g1 q1 => ?_⟩) (pe_ifExp hc ha hb)
  cases b with
  | true => exact iteT ⟨ρ1, h1, σd, g1.rel, en.mon g1.mon, q1⟩
  | false => exact iteF ⟨ρ1, h1, σd, g1.rel, en.mon g1.mon, q1⟩
/-- a conditional expression's truth -/
theorem q_ifeT (hc : PT X ec (tT N X.K W tc)) (ha : PE X ea (tE N X.K W fa)) (hb : PE X eb (tE N X.K W fb)) : True := trivial

/-! ### lists of arguments, displays -/
variable {es : List Expr} {aa : SA}
theorem q_nil : PA X [] (tA N X.K W fun _ h => .ok [] h) := PA.imp (fun σ H Q ⟨ρ, hh, σd, rel, en, q⟩ => q ρ H [] (.refl rel) .nil) pa_nil
theorem q_cons (hs : noStar ea = true) (ha : PE X ea (tE N X.K W fa)) (hr : PA X es (tA N X.K W aa)) : PA X (ea :: es) (tA N X.K W fun σ h => (fa σ h).bind fun d h1 => (aa σ h1).bind fun ds h2 => .ok (d :: ds) h2) :=
  PA.imp (fun σ H Q ⟨ρ, hh, σd, rel, en, q⟩ => ⟨ρ, hh, σd, rel, en, ResA.bindAE q fun d1 h1 _ ρ1 H1 v1 g1 r1 q1 => ⟨ρ1, h1, σd, g1.rel, en.mon g1.mon, ResA.bindAA q1 fun ds h2 _ ρ2 H2 vs g2 r2 q2 =>
    q2 ρ2 H2 _ (.refl g2.rel) (.cons (r1.mon g2.mon) r2)⟩⟩) (pa_cons ha hr (star_of hs))
theorem q_tup {x1 : Nat} (ha : PA X es (tA N X.K W aa)) : PE X (.Tuple es x1 pos) (tE N X.K W (sTup aa)) :=
  PE.imp (fun σ H Q ⟨ρ, hh, σd, rel, en, q⟩ => ⟨ρ, hh, σd, rel, en, ResE.bindEA q fun ds h1 _ ρ1 H1 vs g1 r1 q1 => by
    split at q1
    · rename_i hz
      exact ⟨by rw [← r1.length]; exact big_line hz, fun p hp => let ⟨g, rp⟩ := Grow.tuple g1.rel hp r1; q1 _ _ _ g rp⟩
    · exact q1.elim⟩) (pe_tup ha)
theorem q_lst (ha : PA X es (tA N X.K W aa)) : PE X (.List es pos) (tE N X.K W (sLst aa)) :=
  PE.imp (fun σ H Q ⟨ρ, hh, σd, rel, en, q⟩ => ⟨ρ, hh, σd, rel, en, ResE.bindEA q fun ds h1 _ ρ1 H1 vs g1 r1 q1 => by
    split at q1
    · rename_i hz
      exact ⟨by rw [← r1.length]; exact big_line hz, fun p hp =>
        have g := Grow.alloc (o := .lst ds) (u := .lst vs) g1.rel hp fun m => ⟨vs, upd_same, r1.mon m⟩
        q1 _ _ _ g (.ref (if_pos rfl))⟩
    · exact q1.elim⟩) (pe_lst ha)
theorem q_dnew : PE X (.Dict [] [] pos) (tE N X.K W fun _ h => .ok (.ref h.n) (h.new (.dic []))) :=
  PE.imp (fun σ H Q ⟨ρ, hh, σd, rel, en, q⟩ p hp =>
    have g := Grow.alloc (o := .dic []) (u := .dK []) rel hp fun m => ⟨[], upd_same, .nil⟩
    q _ _ _ g (.ref (if_pos rfl))) pe_dnewK
theorem q_idx (c : Cxt T N G C k nm X sc W) (hp : plainE eb = true) (ha : PE X ea (tE N X.K W fa)) (hb : PE X eb (tE N X.K W fb)) : PE X (.Subscript ea eb pos) (tE N X.K W (sIdx fa fb)) :=
  PE.imp (fun σ H Q ⟨ρ, hh, σd, rel, en, q⟩ => ⟨ρ, hh, σd, rel, en, ResE.bindE q fun d1 h1 _ ρ1 H1 v1 g1 r1 q1 => ⟨ρ1, h1, σd, g1.rel, en.mon g1.mon, ResE.bindE q1 fun d2 h2 _ ρ2 H2 v2 g2 r2 q2 =>
    ⟨ρ2, h2, d1, d2, g2.rel, r1.mon g2.mon, r2, q2.toV (quiet_idx d1 d2 h2)⟩⟩⟩) (pe_ix (ix_any (N := N) c.hu) ha hb (ix_of hp))
/-- a slice's bound -/
def tOI (N : Nm) (K : PySem.W.Frag) (W : WX) (f : Ev → Hs → R (Option Int)) : TO := fun σ H Q => ∃ ρ h σd, RelH N K ρ h H ∧ EnvR K ρ H σd σ ∧ match f σd h with
  | .ok o h' => ∀ ρ' H', Grow N K ρ H ρ' h' H' → Q o H'
  | .exc c fs h' => ∀ ρ' H' dd fv, Grow N K ρ H ρ' h' H' → H' dd = some (.xd fv) → FldR N K ρ' H' fs fv → W (.ref (N.cls c)) (some dd) σ H'
  | .bad => False
end
end Z
end
section
set_option Elab.async false
set_option linter.all false
set_option maxRecDepth 100000
set_option maxHeartbeats 1000000
namespace Z
open PySem L2 PyProof.Rows

/-! ## data without objects -/
mutual
theorem clean_rep {K ρ ρ' H} : ∀ {d v}, clean d = true → Rep K ρ H d v → Rep K ρ' H d v
  | .non, _, _, r => by cases r; exact .non
  | .bl _, _, _, r => by cases r; exact .bl _
  | .int _, _, _, r => by cases r; exact .int _
  | .str _, _, _, r => by cases r; exact .str _
  | .tup ds, _, h, r => by
    simp only [clean] at h
    cases r with
    | tup e rs => exact .tup e (cleans_reps h rs)
  | .ref _, _, h, _ => by simp [clean] at h
theorem cleans_reps {K ρ ρ' H} : ∀ {ds vs}, cleans ds = true → Reps K ρ H ds vs → Reps K ρ' H ds vs
  | [], _, _, r => by cases r; exact .nil
  | d :: ds, _, h, r => by
    simp only [cleans, Bool.and_eq_true] at h
    cases r with
    | cons a b => exact .cons (clean_rep h.1 a) (cleans_reps h.2 b)
end
theorem cleanF_rep {N K ρ ρ' H} : ∀ {fs fv}, cleanF fs = true → FldR N K ρ H fs fv → FldR N K ρ' H fs fv
  | [], _, _, r => by cases r; exact .nil
  | (_, d) :: fs, _, h, r => by
    simp only [cleanF, Bool.and_eq_true] at h
    cases r with
    | cons a b => exact .cons (clean_rep h.1 a) (cleanF_rep h.2 b)
theorem cleanK_rep {K ρ ρ' H} : ∀ {fs fv}, cleanK fs = true → DicR K ρ H fs fv → DicR K ρ' H fs fv
  | [], _, _, r => by cases r; exact .nil
  | (_, d) :: fs, _, h, r => by
    simp only [cleanK, Bool.and_eq_true] at h
    cases r with
    | cons e a b => exact .cons e (clean_rep h.1 a) (cleanK_rep h.2 b)
abbrev rho0 : Rho := fun _ => none
theorem rel0 {N K H} : RelH N K rho0 Hs.empty H := ⟨fun _ _ _ e => (nomatch e), fun _ _ e => (nomatch e), fun _ _ e => (nomatch e), fun _ _ => rfl⟩
theorem Grow.pure {N K ρ h H ρ1 h1 H1} (rel : RelH N K ρ h H) (g : Grow N K rho0 H ρ1 h1 H1) : Grow N K ρ H ρ h H1 := by
  have m : Mon K ρ H ρ H1 := ⟨fun _ _ e => e, g.mon.tup⟩
  refine ⟨⟨rel.inj, fun n o e => ?_, rel.cod, rel.fresh⟩, m, fun a o e _ => g.frm a o e fun _ z => (nomatch z), fun _ _ e => .inl e⟩
  obtain ⟨a, ea, r⟩ := rel.dom n o e
  obtain ⟨u, hu⟩ := r.some
  exact ⟨a, ea, r.mon m ((g.frm a u hu fun _ z => (nomatch z)).trans hu.symm)⟩
theorem Grow.adopt {N K ρ h H ρ1 h1 H1} (rel : RelH N K ρ h H) (g : Grow N K rho0 H ρ1 h1 H1) {a : Addr} {o : Ob} (ha : H a = none) (ob : ∀ ρ', ObR N K ρ' H1 a o) : Grow N K ρ H (ρ.put h.n a) (h.new o) H1 := by
  have p := Grow.pure rel g
  have hn := rel.rho_new
  have old : ∀ {n}, n ≠ h.n → (ρ.put h.n a) n = ρ n := fun {n} e => if_neg e
  have same : (ρ.put h.n a) h.n = some a := if_pos rfl
  have m : Mon K ρ H (ρ.put h.n a) H1 := ⟨fun n b e => (old fun z => by rw [z, hn] at e; cases e).trans e, g.mon.tup⟩
  have m1 : Mon K ρ H1 (ρ.put h.n a) H1 := ⟨m.rho, fun _ _ e => e⟩
  have nb : ∀ {n b}, ρ n = some b → b ≠ a := fun {n b} e z => rel.none_new ha n (z ▸ e)
  refine ⟨⟨fun x y b e1 e2 => ?_, fun n o2 e => ?_, fun n b e => ?_, fun n hz => ?_⟩, m, p.frm, fun n b e => ?_⟩
  · by_cases h1 : x = h.n <;> by_cases h2 : y = h.n
    · rw [h1, h2]
    · rw [h1, same] at e1; cases e1; rw [old h2] at e2; exact absurd rfl (nb e2)
    · rw [h2, same] at e2; cases e2; rw [old h1] at e1; exact absurd rfl (nb e1)
    · rw [old h1] at e1; rw [old h2] at e2; exact rel.inj x y b e1 e2
  · rw [Hs.get_new] at e
    by_cases hm : n = h.n
    · subst hm
      rw [if_pos rfl] at e
      cases e
      exact ⟨a, same, ob _⟩
    · rw [if_neg hm] at e
      obtain ⟨b, eb, r⟩ := p.rel.dom n o2 e
      exact ⟨b, (old hm).trans eb, r.mon m1 rfl⟩
  · rw [Hs.get_new]
    by_cases hm : n = h.n
    · exact ⟨o, if_pos hm⟩
    · rw [if_neg hm]; exact rel.cod n b ((old hm).symm.trans e)
  · have h1 : h.n + 1 ≤ n := hz
    rw [Hs.get_new, if_neg (by omega)]
    exact rel.fresh n (by omega)
  · by_cases hm : n = h.n
    · subst hm; rw [same] at e; cases e; exact .inr ha
    · rw [old hm] at e; exact .inl e
mutual
theorem sh_rep {K ρ1 ρ2 H k} (e : ∀ n a, ρ1 n = some a → ρ2 (n + k) = some a) : ∀ {d v}, Rep K ρ1 H d v → Rep K ρ2 H (shD k d) v
  | _, _, .non => .non
  | _, _, .bl b => .bl b
  | _, _, .int i => .int i
  | _, _, .str l => .str l
  | _, _, .ref h => .ref (e _ _ h)
  | _, _, .tup h r => .tup h (sh_reps e r)
theorem sh_reps {K ρ1 ρ2 H k} (e : ∀ n a, ρ1 n = some a → ρ2 (n + k) = some a) : ∀ {d v}, Reps K ρ1 H d v → Reps K ρ2 H (shDs k d) v
  | _, _, .nil => .nil
  | _, _, .cons a b => .cons (sh_rep e a) (sh_reps e b)
end
theorem sh_fld {N K ρ1 ρ2 H k} (e : ∀ n a, ρ1 n = some a → ρ2 (n + k) = some a) : ∀ {d v}, FldR N K ρ1 H d v → FldR N K ρ2 H (shF k d) v
  | _, _, .nil => .nil
  | _, _, .cons a b => .cons (sh_rep e a) (sh_fld e b)
theorem sh_dic {K ρ1 ρ2 H k} (e : ∀ n a, ρ1 n = some a → ρ2 (n + k) = some a) : ∀ {d v}, DicR K ρ1 H d v → DicR K ρ2 H (shK k d) v
  | _, _, .nil => .nil
  | _, _, .cons z a b => .cons z (sh_rep e a) (sh_dic e b)
theorem shF_len (k : Nat) : ∀ l, (shF k l).length = l.length
  | [] => rfl
  | _ :: r => congrArg (· + 1) (shF_len k r)
theorem sh_ob {N K ρ1 ρ2 H k a o} (e : ∀ n a, ρ1 n = some a → ρ2 (n + k) = some a) (x : ObR N K ρ1 H a o) : ObR N K ρ2 H a (shO k o) := by
  cases o with
  | lst => obtain ⟨vs, z, r⟩ := x; exact ⟨vs, z, sh_reps e r⟩
  | frz => obtain ⟨o, vs, z, r⟩ := x; exact ⟨o, vs, z, sh_reps e r⟩
  | dic => obtain ⟨kv, z, r⟩ := x; exact ⟨kv, z, sh_dic e r⟩
  | ins => obtain ⟨dx, fv, z, r, l⟩ := x; exact ⟨dx, fv, z, sh_fld e r, by rw [shF_len]; exact l⟩
theorem nbeq {a b : Nat} : Nat.beq a b = true ↔ a = b := ⟨Nat.eq_of_beq_eq_true, fun e => by subst e; exact Nat.beq_refl a⟩
theorem lk_shM (k b : Nat) (m : List (Nat × Ob)) : ∀ l, Hs.lk (shM k l m) b = if k ≤ b then (match Hs.lk l (b - k) with
    | some o => some (shO k o)
    | none => Hs.lk m b) else Hs.lk m b
  | [] => by simp [shM, Hs.lk]
  | (i, o) :: r => by
    have ih := lk_shM k b m r
    simp only [shM, Hs.lk]
    by_cases hk : k ≤ b
    · rw [if_pos hk] at ih ⊢
      by_cases e : i = b - k
      · have h1 : Nat.beq (i + k) b = true := by rw [nbeq]; omega
        have h2 : Nat.beq i (b - k) = true := by rw [nbeq]; exact e
        rw [if_pos h1, if_pos h2]
      · have h1 : ¬ Nat.beq (i + k) b = true := by rw [nbeq]; omega
        have h2 : ¬ Nat.beq i (b - k) = true := by rw [nbeq]; exact e
        rw [if_neg h1, if_neg h2, ih]
    · have h1 : ¬ Nat.beq (i + k) b = true := by rw [nbeq]; omega
      rw [if_neg h1, ih, if_neg hk, if_neg hk]
theorem get_app (h h1 : Hs) (b : Nat) : (h.app h1).get b = if h.n ≤ b then (match h1.get (b - h.n) with
    | some o => some (shO h.n o)
    | none => h.get b) else h.get b := lk_shM h.n b h.m h1.m
theorem Grow.app {N K ρ h H ρ1 h1 H1} (rel : RelH N K ρ h H) (g : Grow N K rho0 H ρ1 h1 H1) : ∃ ρ2, Grow N K ρ H ρ2 (h.app h1) H1 ∧ ∀ n a, ρ1 n = some a → ρ2 (n + h.n) = some a := by
  have p := Grow.pure rel g
  have lt : ∀ {n a}, ρ n = some a → n < h.n := fun {n a} e => by
    obtain ⟨o, ho⟩ := rel.cod n a e
    apply Classical.byContradiction
    intro z
    rw [rel.fresh n (by omega)] at ho
    cases ho
  have fr1 : ∀ {n a}, ρ1 n = some a → H a = none := fun {n a} e => (g.new n a e).elim (fun z => nomatch z) id
  have up : ∀ n a, ρ1 n = some a → (fun n => if n < h.n then ρ n else ρ1 (n - h.n)) (n + h.n) = some a := fun n a e => by
    dsimp only
    rw [if_neg (by omega), Nat.add_sub_cancel]
    exact e
  have m : Mon K ρ H (fun n => if n < h.n then ρ n else ρ1 (n - h.n)) H1 := ⟨fun n a e => by rw [if_pos (lt e)]; exact e, g.mon.tup⟩
  have m1 : Mon K ρ H1 (fun n => if n < h.n then ρ n else ρ1 (n - h.n)) H1 := ⟨m.rho, fun _ _ e => e⟩
  refine ⟨fun n => if n < h.n then ρ n else ρ1 (n - h.n), ⟨⟨fun x y b e1 e2 => ?_, fun n o e => ?_, fun n b e => ?_, fun n hz => ?_⟩, m, p.frm, fun n b e => ?_⟩, up⟩
  · by_cases h1 : x < h.n <;> by_cases h2 : y < h.n
    · rw [if_pos h1] at e1; rw [if_pos h2] at e2; exact rel.inj x y b e1 e2
    · rw [if_pos h1] at e1; rw [if_neg h2] at e2; exact absurd e1 (rel.none_new (fr1 e2) x)
    · rw [if_neg h1] at e1; rw [if_pos h2] at e2; exact absurd e2 (rel.none_new (fr1 e1) y)
    · rw [if_neg h1] at e1; rw [if_neg h2] at e2
      have := g.rel.inj _ _ b e1 e2
      omega
  · rw [get_app] at e
    by_cases hn : h.n ≤ n
    · rw [if_pos hn] at e
      cases e1 : h1.get (n - h.n) with
      | none => rw [e1] at e; dsimp only at e; rw [rel.fresh n hn] at e; cases e
      | some o1 =>
        rw [e1] at e
        cases e
        obtain ⟨a, ea, r⟩ := g.rel.dom _ _ e1
        exact ⟨a, by rw [if_neg (by omega)]; exact ea, sh_ob up r⟩
    · rw [if_neg hn] at e
      obtain ⟨a, ea, r⟩ := p.rel.dom n o e
      exact ⟨a, m.rho n a ea, r.mon m1 rfl⟩
  · rw [get_app]
    by_cases hn : n < h.n
    · rw [if_pos hn] at e
      rw [if_neg (by omega)]
      exact rel.cod n b e
    · rw [if_neg hn] at e
      rw [if_pos (by omega)]
      obtain ⟨o, ho⟩ := g.rel.cod _ _ e
      rw [ho]
      exact ⟨_, rfl⟩
  · have hz' : h.n + h1.n ≤ n := hz
    rw [get_app, if_pos (by omega), g.rel.fresh _ (by omega)]
    exact rel.fresh n (by omega)
  · by_cases hn : n < h.n
    · rw [if_pos hn] at e; exact .inl e
    · rw [if_neg hn] at e; exact .inr (fr1 e)
theorem ResE.toF {N K ρ H} {W : WX} {σ : L2.St} {r : R D} {Q : VK} (q : ResE N K W ρ H σ r Q) : ResE N K (fun c d _ H => WE W σ c d H) ρ H [] r Q := by
  cases r with
  | ok => exact q
  | exc => exact q
  | bad => exact q

section
variable {T : Tb} {N : Nm} {G : Gm} {C : Cl} {k : Nat} {nm : List Str} {X : Cx} {sc : Scope} {W : WX}
variable {ea eb ec : Expr} {fa fb fc : SE} {pos : Pos} {es : List Expr} {aa : SA}

/-! ### slices -/
theorem q_ono : PO X none (tOI N X.K W fun _ h => .ok none h) := by
  refine ⟨fun pins s σ H Q I ⟨ρ, hh, σd, rel, en, q⟩ => po_none.run pins s σ H Q I (q ρ H (.refl rel))⟩
theorem q_oyes (ha : PE X ea (tE N X.K W fa)) : PO X (some ea) (tOI N X.K W (optI fa)) := by
  refine ⟨fun pins s σ H Q I ⟨ρ, hh, σd, rel, en, q⟩ => (po_some ha).run pins s σ H Q I ⟨ρ, hh, σd, rel, en, ?_⟩⟩
  unfold optI at q
  cases hf : fa σd hh with
  | bad => rw [hf] at q; exact q
  | exc => rw [hf] at q; exact q
  | ok d h1 =>
    rw [hf, R.bind_ok] at q
    cases d <;> try exact q.elim
    exact fun ρ1 H1 v g r => ⟨_, r.int_inv, q ρ1 H1 g⟩
theorem q_slc {lo hi : Option Expr} {p2 : Pos} {fl fu : Ev → Hs → R (Option Int)} (ha : PE X ea (tE N X.K W fa)) (hl : PO X lo (tOI N X.K W fl)) (hu : PO X hi (tOI N X.K W fu)) :
    PE X (.Subscript ea (.Slice lo hi none p2) pos) (tE N X.K W (sSlc fa fl fu)) := by
  refine PE.imp (fun σ H Q ⟨ρ, hh, σd, rel, en, q⟩ => ⟨ρ, hh, σd, rel, en, ResE.bindE q fun d1 h1 _ ρ1 H1 v1 g1 r1 q1 => ⟨ρ1, h1, σd, g1.rel, en.mon g1.mon, ?_⟩⟩) (pe_slice (sl_any (N := N)) ha hl hu)
  cases hf : fl σd h1 with
  | bad => rw [hf] at q1; exact q1
  | exc => rw [hf] at q1; exact q1
  | ok l h2 =>
    rw [hf, R.bind_ok] at q1
    intro ρ2 H2 g2
    have q2 := ResE.shift g2 q1
    refine ⟨ρ2, h2, σd, g2.rel, (en.mon g1.mon).mon g2.mon, ?_⟩
    cases hf2 : fu σd h2 with
    | bad => rw [hf2] at q2; exact q2
    | exc => rw [hf2] at q2; exact q2
    | ok u h3 =>
      rw [hf2, R.bind_ok] at q2
      intro ρ3 H3 g3
      exact ⟨ρ3, h3, d1, g3.rel, (r1.mon g2.mon).mon g3.mon, (ResE.shift g3 q2).toV (quiet_slc d1 l u h3)⟩

/-! ### fields -/
theorem fld_at {ρ h H d f v} (tab : ∀ c f, G.hasF c f = true → Cls X.K (N.cls c) ∧ NoAttr X.K (N.cls c) (N.fld f)) (rel : RelH N X.K ρ h H) (rd : Rep X.K ρ H d v) {r h'} (e : fldop G f d h = .ok r h') :
    h' = h ∧ ∃ a c dx fv w, v = .ref a ∧ H a = some (.ins (N.cls c) dx fv) ∧ Cls X.K (N.cls c) ∧ NoAttr X.K (N.cls c) (N.fld f) ∧ fv.lookup (N.fld f) = some w ∧ Rep X.K ρ H r w ∧ clsOf h d = some c := by
  unfold fldop at e
  split at e
  · obtain ⟨a, rfl, ea⟩ := rd.ref_inv
    split at e
    · rename_i c fs g
      split at e
      · rename_i hf
        obtain ⟨dx, fv, c1, ra, _⟩ := rel.at ea g
        split at e
        · rename_i w hw
          cases e
          obtain ⟨h1, h2⟩ := tab c f hf
          obtain ⟨z, z1, z2⟩ := ra.get hw
          exact ⟨rfl, a, c, dx, fv, z, rfl, c1, h1, h2, z1, z2, by simp only [clsOf, g]⟩
        · cases e
      · cases e
    · cases e
  · cases e
theorem quiet_fld (f : Nat) (d : D) (h : Hs) : quiet (fldop G f d h) := by
  unfold fldop
  repeat' split
  all_goals trivial
theorem q_fld (c : Cxt T N G C k nm X sc W) {f : Nat} {x : Str} (hx : T.fld f = x) (hb : base0 ea = true) (ha : PE X ea (tE N X.K W fa)) : PE X (.Attribute ea x pos) (tE N X.K W (sFld G fa f)) := by
  rw [← hx, c.tab.nf]
  refine PE.imp (fun σ H Q ⟨ρ, hh, σd, rel, en, q⟩ => ⟨ρ, hh, σd, rel, en, ResE.bindE q fun d1 h1 _ ρ1 H1 v1 g1 r1 q1 => ?_⟩) (pe_fld ha (base_of hb))
  cases hf : fldop G f d1 h1 with
  | bad => rw [hf] at q1; exact q1.elim
  | exc => have := quiet_fld (G := G) f d1 h1; rw [hf] at this; exact this.elim
  | ok r h2 =>
    rw [hf] at q1
    obtain ⟨rfl, a, cc, dx, fv, w, rfl, z1, z2, z3, z4, z5, _⟩ := fld_at (G := G) c.tab.fld g1.rel r1 hf
    exact ⟨a, _, dx, fv, w, rfl, z1, z2, z3, z4, q1 ρ1 H1 w (.refl g1.rel) z5⟩

/-! ### calls -/
theorem ck_len {n : Nat} {ds : List D} (h : ckargs n ds = true) : ds.length = n := Nat.eq_of_beq_eq_true h
theorem sp_of {ρ h H σ f ds vs Q} (rel : RelH N X.K ρ h H) (r : Reps X.K ρ H ds vs) (hl : ckargs (G.np f) ds = true) (q : ResE N X.K W ρ H σ (C f ds h) Q) : spF N X.K (C f) (G.np f) vs H Q (WE W σ) :=
  ⟨ρ, h, ds, rel, r, ck_len hl, q.toF⟩
theorem q_call (c : Cxt T N G C k nm X sc W) {f : Nat} {x : Str} {p : Pos} (h1 : T.fname f = some x) (h2 : glB sc x = true) (h3 : nmB x = true) (hs : es.all noStar = true) (ha : PA X es (tA N X.K W aa)) (h0 : es = [] → aa = fun _ h => .ok [] h) :
    PE X (.Call (.Name x p) es [] pos) (tE N X.K W (sCall G C f aa)) := by
  simp only [nmB, Bool.and_eq_true, Bool.not_eq_true'] at h3
  obtain ⟨a, fd, ps, hps, F, hm, hk, hb⟩ := c.tab.fn f x h1
  have room := c.room.mono (Nat.le_succ k)
  cases es with
  | nil =>
    cases h0 rfl
    refine PE.imp (fun σ H Q ⟨ρ, hh, σd, rel, en, q⟩ => ?_) (pe_fn0 F room c.gd (c.gl x h2) hm hk hb c.tk h3.1.1)
    unfold sCall at q
    rw [R.bind_ok] at q
    split at q
    · rename_i hl
      exact sp_of rel .nil hl q
    · exact q.elim
  | cons e es =>
    refine PE.imp (fun σ H Q ⟨ρ, hh, σd, rel, en, q⟩ => ⟨ρ, hh, σd, rel, en, ResE.bindEA q fun ds h1 _ ρ1 H1 vs g1 r1 q1 => ?_⟩) (pe_fn F room c.gd (c.gl x h2) hm hk hb c.tk ha h3.1.1 hs)
    split at q1
    · rename_i hl
      exact sp_of g1.rel r1 hl q1
    · exact q1.elim
theorem pure_res {ρ h H σ f ds Q} (rel : RelH N X.K ρ h H) (q : ResE N X.K W ρ H σ (pureCall C f ds h) Q) : cleans ds = true ∧ ResE N X.K W rho0 H σ (C f ds Hs.empty) Q := by
  unfold pureCall at q
  split at q
  · rename_i hc
    refine ⟨hc, ?_⟩
    cases hr : C f ds Hs.empty with
    | bad => rw [hr] at q; exact q
    | exc cc fs h' =>
      rw [hr] at q
      dsimp only at q
      split at q
      · rename_i hf
        intro ρ' H' dd fv g e r
        exact q ρ H' dd fv (Grow.pure rel g) e (cleanF_rep hf r)
      · exact q.elim
    | ok d h' =>
      rw [hr] at q
      dsimp only at q
      intro ρ' H' v g r
      split at q
      · rename_i hd
        exact q ρ H' v (Grow.pure rel g) (clean_rep hd r)
      · obtain ⟨ρ2, g2, up⟩ := Grow.app rel g
        exact q ρ2 H' v g2 (sh_rep up r)
  · exact q.elim
theorem q_pcall (c : Cxt T N G C k nm X sc W) {f : Nat} {x : Str} {p : Pos} (h1 : T.fname f = some x) (h2 : glB sc x = true) (h3 : nmB x = true) (hs : es.all noStar = true) (ha : PA X es (tA N X.K W aa)) (h0 : es = [] → aa = fun _ h => .ok [] h) :
    PE X (.Call (.Name x p) es [] pos) (tE N X.K W (sPure G C f aa)) := by
  simp only [nmB, Bool.and_eq_true, Bool.not_eq_true'] at h3
  obtain ⟨a, fd, ps, hps, F, hm, hk, hb⟩ := c.tab.fn f x h1
  have room := c.room.mono (Nat.le_succ k)
  cases es with
  | nil =>
    cases h0 rfl
    refine PE.imp (fun σ H Q ⟨ρ, hh, σd, rel, en, q⟩ => ?_) (pe_fn0 F room c.gd (c.gl x h2) hm hk hb c.tk h3.1.1)
    unfold sPure at q
    rw [R.bind_ok] at q
    split at q
    · rename_i hl
      exact sp_of rel0 .nil hl (pure_res rel q).2
    · exact q.elim
  | cons e es =>
    refine PE.imp (fun σ H Q ⟨ρ, hh, σd, rel, en, q⟩ => ⟨ρ, hh, σd, rel, en, ResE.bindEA q fun ds h1 _ ρ1 H1 vs g1 r1 q1 => ?_⟩) (pe_fn F room c.gd (c.gl x h2) hm hk hb c.tk ha h3.1.1 hs)
    split at q1
    · rename_i hl
      obtain ⟨hc, q2⟩ := pure_res g1.rel q1
      exact sp_of rel0 (cleans_reps hc r1) hl q2
    · exact q1.elim
theorem q_meth (c : Cxt T N G C k nm X sc W) {m : Nat} {x : Str} {apos : Pos} (hx : T.mname m = x) (hb0 : base0 ea = true) (hs : es.all noStar = true) (hn : es.length < 30) (hl : (apos.endLine == pos.line) = true)
    (ho : PE X ea (tE N X.K W fa)) (ha : PA X es (tA N X.K W aa)) (h0 : es = [] → aa = fun _ h => .ok [] h) : PE X (.Call (.Attribute ea x apos) es [] pos) (tE N X.K W (sMeth G C fa m aa)) := by
  subst hx
  have room := c.room.mono (Nat.le_succ k)
  -- the class is known only when the object is there
  refine ⟨fun pins s σ H Q I ⟨ρ, hh, σd, rel, en, q⟩ => ?_⟩
  unfold sMeth at q
  cases hf : fa σd hh with
  | bad => rw [hf] at q; exact q.elim
  | exc cc fs h' =>
    -- the receiver raises
    rw [hf] at q
    obtain ⟨pl, ht⟩ := meth_form (m := T.mname m) (env := X.env) (es := es) hb0 hs hn hl
    refine PySem.W.methodCall_KW (pl := pl) (thn (ho.run pins s σ H (fun _ _ => False) I ⟨ρ, hh, σd, rel, en, by rw [hf]; exact q⟩) fun u s1 ⟨_, _, _, _, z⟩ => z.elim) ht
  | ok d h1 =>
    rw [hf, R.bind_ok] at q
    split at q
    · rename_i n
      split at q
      · rename_i cc fs g
        split at q
        · rename_i f hmeth
          obtain ⟨a, fd, ps, hps, F, hcls, hM, hb⟩ := c.tab.meth cc m f hmeth
          cases es with
          | nil =>
            cases h0 rfl
            rw [R.bind_ok] at q
            split at q
            · rename_i hck
              refine (pe_mth0 ho hcls hM F room c.gd hb c.tk hb0 hl).run pins s σ H Q I ⟨ρ, hh, σd, rel, en, ?_⟩
              rw [hf]
              intro ρ1 H1 v g1 r1
              obtain ⟨b, rfl, eb⟩ := r1.ref_inv
              obtain ⟨dx, fv, z1, z2, _⟩ := g1.rel.at eb g
              exact ⟨b, dx, fv, rfl, z1, z2.none (c.tab.mf m), sp_of g1.rel (.cons r1 .nil) hck (ResE.shift g1 q)⟩
            · exact q.elim
          | cons e es =>
            refine (pe_mth ho hcls hM F room c.gd hb c.tk ha hb0 hs hn hl).run pins s σ H Q I ⟨ρ, hh, σd, rel, en, ?_⟩
            rw [hf]
            intro ρ1 H1 v g1 r1
            obtain ⟨b, rfl, eb⟩ := r1.ref_inv
            obtain ⟨dx, fv, z1, z2, _⟩ := g1.rel.at eb g
            refine ⟨b, dx, fv, rfl, z1, z2.none (c.tab.mf m), ρ1, h1, σd, g1.rel, en.mon g1.mon, ResE.bindEA (ResE.shift g1 q) fun ds h2 _ ρ2 H2 vs g2 r2 q2 => ?_⟩
            split at q2
            · rename_i hck
              exact sp_of g2.rel (.cons (r1.mon g2.mon) r2) hck q2
            · exact q2.elim
        · exact q.elim
      · exact q.elim
    · exact q.elim
theorem make_res {ρ1 h1 H1 σ c f ds vs Q} (rel : RelH N X.K ρ1 h1 H1) (r : Reps X.K ρ1 H1 ds vs) (q : ResE N X.K W ρ1 H1 σ (if ckargs (G.np f) (.ref h1.n :: ds) then (C f (.ref h1.n :: ds) (h1.new (.ins c []))).bind fun d h2 => match d with
    | .non => .ok (.ref h1.n) h2
    | _ => .bad else .bad) Q) (x dx : Addr) (hx : H1 x = none) (hdx : H1 dx = none) (ne : dx ≠ x) :
    spF N X.K (C f) (G.np f) (.ref x :: vs) (upd (upd H1 dx (.own x)) x (.ins (N.cls c) dx [])) (fun v H2 => v = .non ∧ Q (.ref x) H2) (WE W σ) := by
  split at q
  · rename_i hck
    have g1 := Grow.side (u := .own x) rel hdx
    have hx2 : (upd H1 dx (.own x)) x = none := (upd_ne (Ne.symm ne)).trans hx
    have g2 := Grow.alloc (o := .ins c []) (u := .ins (N.cls c) dx []) g1.rel hx2 fun m => ⟨dx, [], upd_same, .nil, by simp⟩
    have g := g1.trans g2
    refine ⟨_, h1.new (.ins c []), .ref h1.n :: ds, g2.rel, .cons (.ref (if_pos rfl)) (r.mon g.mon), ck_len hck, ?_⟩
    have q1 := ResE.shift g q
    cases hr : C f (.ref h1.n :: ds) (h1.new (.ins c [])) with
    | bad => rw [hr] at q1; exact q1
    | exc => rw [hr] at q1; exact q1
    | ok d h2 =>
      rw [hr, R.bind_ok] at q1
      cases d <;> try exact q1.elim
      intro ρ' H' v g' r'
      exact ⟨r'.non_inv, q1 ρ' H' _ g' (.ref (g'.mon.rho _ _ (if_pos rfl)))⟩
  · exact q.elim
theorem q_make (c : Cxt T N G C k nm X sc W) {cc : Nat} {x : Str} {p : Pos} (h1 : T.cname cc = some x) (h2 : glB sc x = true) (h3 : nmB x = true) (hs : es.all noStar = true) (ha : PA X es (tA N X.K W aa)) (h0 : es = [] → aa = fun _ h => .ok [] h) (hin : (G.init cc).isSome = true) :
    PE X (.Call (.Name x p) es [] pos) (tE N X.K W (sMake G C cc aa)) := by
  simp only [nmB, Bool.and_eq_true, Bool.not_eq_true'] at h3
  have hm := c.tab.cn cc x h1
  cases hi : G.init cc with
  | none => rw [hi] at hin; cases hin
  | some f =>
    obtain ⟨a, fd, ps, hps, F, M, hb⟩ := c.tab.init cc f hi
    cases es with
    | nil =>
      cases h0 rfl
      refine PE.imp (fun σ H Q ⟨ρ, hh, σd, rel, en, q⟩ => ?_) (pe_mk0 M F c.room c.gd (c.gl x h2) hm hb c.tk h3.1.1)
      unfold sMake at q
      rw [R.bind_ok, hi] at q
      intro x dx hx hdx ne
      exact make_res rel .nil q x dx hx hdx ne
    | cons e es =>
      refine PE.imp (fun σ H Q ⟨ρ, hh, σd, rel, en, q⟩ => ⟨ρ, hh, σd, rel, en, ResE.bindEA q fun ds h1 _ ρ1 H1 vs g1 r1 q1 => ?_⟩) (pe_mk M F c.room c.gd (c.gl x h2) hm hb c.tk ha h3.1.1 hs)
      rw [hi] at q1
      intro x dx hx hdx ne
      exact make_res g1.rel r1 q1 x dx hx hdx ne
end
end Z
end
section
set_option Elab.async false
set_option linter.all false
set_option maxRecDepth 100000
set_option maxHeartbeats 2000000
namespace Z
open PySem L2 PyProof.Rows
/-! ## enumerate of a tuple -/
theorem enumNew {v : Value} {o : Obj} {Hq : Heap → Prop} (B : Begins v o Hq) :
    Meets (Builtin.«enumerate.__new__» ⟨[.type "enumerate", v], []⟩) (fun _ R s => Hq s.heap ∧ R (.ok (.ret (.ref (s.heap.push o).objs.size)))
        { s with heap := (s.heap.push o).push { cls := .type "enumerate", data := .fields #[.none, .bool false, .ref s.heap.objs.size, rawInt 0, .none, .none] } }) := .of_wp fun prog w A R s q => by
  obtain ⟨hp, g, d, tk, os⟩ := s
  obtain ⟨q0, q⟩ := q
  have sub := sub_enumerate
  have it : ∀ {A2 : Around} {E : Value → Shared → Prop} {Q : Value → Shared → Prop}, Q (.ref hp.objs.size) ⟨hp.push o, g, d, tk, os⟩ → wpAny (model prog w) A2 (pyIter v) Q E ⟨hp, g, d, tk, os⟩ := fun z => B.iter prog w _ _ ⟨hp, g, d, tk, os⟩ _ q0 z
  wp_walk using it
  refine wpAny_stack_any fun st => wpAny_pure ?_
  split
  · rename_i c _ _ _ _ _
    cases (c == Value.type "enumerate") <;> (wp_walk using it; exact ⟨_, rfl, q⟩)
  · wp_walk using it
    exact ⟨_, rfl, q⟩
theorem enumCall {prog : Program} {w : World} {A : Around} {E : Value → Shared → Prop} {s : Shared} {v : Value} {o : Obj} {Hq : Heap → Prop} {Q : Value → Shared → Prop} (B : Begins v o Hq) (h1 : Hq s.heap)
    (h : ∀ h2, IsEnum h2 (s.heap.objs.size + 1) s.heap.objs.size 0 .none → h2.get? s.heap.objs.size = some o → (∀ b ob, s.heap.get? b = some ob → h2.get? b = some ob) → Q (.ref (s.heap.objs.size + 1)) { s with heap := h2 }) :
    wpAny (model prog w) A (call (.type "enumerate") [v]) Q E s := by
  refine callType_new F.called_enumerate (by decide) (F.typeCall_enumerate_1 _) (F.newCall_enumerate_1 _) (fun obj => F.args_object_init_2 obj _) F.entry_enumerate_new (enumNew B) ⟨h1, ?_⟩
  have z : (s.heap.push o).objs.size = s.heap.objs.size + 1 := Heap.size_push ..
  have e : IsEnum ((s.heap.push o).push { cls := .type "enumerate", data := .fields #[.none, .bool false, .ref s.heap.objs.size, rawInt 0, .none, .none] }) (s.heap.objs.size + 1) s.heap.objs.size 0 .none := by
    have y := Heap.get?_push_size (s.heap.push o) (o := { cls := .type "enumerate", data := .fields #[.none, .bool false, .ref s.heap.objs.size, rawInt 0, .none, .none] }) rfl
    rw [z] at y
    exact y
  show _ ∧ _
  rw [z]
  exact ⟨⟨_, e, rfl⟩, h _ e (Heap.get?_push_of_some _ (Heap.get?_push_size _ B.free)) fun b ob y => Heap.get?_push_of_some _ (Heap.get?_push_of_some _ y)⟩
/-- the tuple at a, each item in a new pair -/
def IteT (K : PySem.W.Frag) (a : Addr) : L2.It :=
  ⟨fun i H => ∃ (xs : List V) (x : V), SqT K H a xs ∧ xs[i]? = some x, fun i H v H2 => ∃ t x, v = .ref t ∧ H t = none ∧ H2 = upd H t (.tup [.int (i : Nat), x]) ∧ ∀ xs, SqT K H a xs → xs[i]? = some x, fun i H => ∃ xs : List V, SqT K H a xs ∧ xs.length ≤ i⟩
theorem turn_etup {P : Program} {w : World} {K : PySem.W.Frag} {elts : List Expr} {kk : Nat} {tp : Pos} (a e it : Addr) :
    Turn P w K (.Tuple elts kk tp) (IteT K a) [e, it] e (fun i h => (∃ old, IsEnum h e it ((i : Nat) : Int) old) ∧ h.IsTupleIter it a i ∧ e ≠ it ∧ a ≠ it ∧ a ≠ e) where
  mem := by simp
  obj := fun i h st b hb => by
    obtain ⟨⟨old, he⟩, ⟨o, ho, hc, hd⟩, _⟩ := st
    rcases (by simpa using hb : b = e ∨ b = it) with rfl | rfl
    · exact ⟨_, he, fun v q => nomatch q⟩
    · exact ⟨o, ho, fun v q => by rw [hd] at q; cases q⟩
  keep := fun i h h2 st k => let ⟨⟨old, he⟩, hi, ne⟩ := st; ⟨⟨old, k e (by simp) _ he⟩, hi.at fun o q => k it (by simp) o q, ne⟩
  item := by
    intro X hP hw hK hc i pins s σ H E I hf st hg
    subst hP hw hK
    obtain ⟨⟨old, he⟩, hit, ne, na, nae⟩ := st
    obtain ⟨xs, x, hq, hx⟩ := hg
    obtain ⟨its, rv, p, hz⟩ := I.tuple hq
    obtain ⟨u, hu, ru⟩ := rv.get hx
    have hel : e < s.heap.objs.size := Heap.lt_size he
    have hil : it < s.heap.objs.size := by obtain ⟨_, q, _⟩ := hit; exact Heap.lt_size q
    have Dr := PySem.Draws.tuple (prog := X.prog) (w := X.w) (A := X.A.in1) (I.ok.hd hc) it a na its.toArray
    have hlt : i < its.toArray.size := by
      have := (List.getElem?_eq_some_iff.mp hu).1
      simpa using this
    refine wpAny_pyNext_enum_itemD Dr he ⟨hit, p⟩ hlt ne (by simp only [List.mem_cons, List.not_mem_nil, or_false, not_or]; exact ⟨ne, Ne.symm nae⟩) fun y h2 tk hy ho hst hT hsz hk => ?_
    have hy' : y = u := by
      have : its[i]? = some y := by simpa using hy
      rw [hu] at this
      exact (Option.some.inj this).symm
    subst hy'
    obtain ⟨hit2, _⟩ := hst
    refine ⟨_, rfl, wpAny_letOwnedTupleGo_enum (s := { s with heap := h2, toks := tk + 1 }) ho fun h3 he3 sb => ?_⟩
    have hT2 : h3.get? s.heap.objs.size = some { cls := .type "tuple", data := .seq #[.int i tk, y] } := (sb.2 _ (Nat.ne_of_gt hel)).trans hT
    have new : ObjOk X.prog X.w (upd H s.heap.objs.size (.tup [.int (i : Nat), x])) h3 s.heap.objs.size (.tup [.int (i : Nat), x]) := ⟨by show 2 ≤ sizeLine; decide, [.int i tk, y], .cons ⟨_, rfl⟩ (.cons ru .nil), ⟨_, hT2, rfl, _, rfl⟩⟩
    have I1 : Inv X pins σ (upd H s.heap.objs.size (.tup [.int (i : Nat), x])) { s with heap := h3, toks := tk + 1 } :=
      I.turnedNew (ch := [e, it]) (fun b ob hb q => (sb.2 b fun z => hb (by simp [z])).trans (hk b ob (fun z => hb (by simp [z])) (fun z => hb (by simp [z])) q)) hf (Nat.le_refl _) new
    refine ⟨.ref s.heap.objs.size, _, I1, rfl, ⟨_, x, rfl, I.hok.fresh (Nat.le_refl _), rfl, fun ys hy => by rw [I.tuple_inj hy hq]; exact hx⟩, ⟨⟨y, ?_⟩, hit2.at fun o q => (sb.2 it (Ne.symm ne)).trans q, ne, na, nae⟩, fun b hb => ?_⟩
    · rw [show ((i + 1 : Nat) : Int) = (i : Int) + 1 by omega]
      exact he3
    · have hb2 : b < s.heap.objs.size := by
        rcases (by simpa using hb : b = e ∨ b = it) with rfl | rfl
        · exact hel
        · exact hil
      exact (upd_ne (Nat.ne_of_lt hb2)).trans (hf b hb).1
  done := by
    intro X hP hw hK hc i pins s σ H E I hf st hg
    subst hP hw hK
    obtain ⟨⟨old, he⟩, hit, ne, na, nae⟩ := st
    obtain ⟨xs, hq, hx⟩ := hg
    obtain ⟨its, rv, p, hz⟩ := I.tuple hq
    obtain ⟨f0, f1, f2, f3, f4, f5⟩ := hf it (by simp)
    have hl := rv.length
    have hT : s.TypeIs (.ref e) "enumerate" := ⟨_, he, rfl⟩
    unfold pyNext
    refine wpAny_bind (wpAny_attempt (wpAny_callSpecial?_slot (name := Str.ofString "__next__") hT F.slot_enumerate_next (wpAny_call_entry F.slot_enumerate_next hT F.entry_enumerate_next ?_ (F.args_enumerate_next_1 _))))
    show wpAny _ _ (field (.ref e) 2 >>= _) _ _ _
    refine wpAny_bind (wpAny_field he rfl (x := .ref it) rfl (wpAny_bind (wpAny_nextOf_tuple_end (I.ok.hd hc) hit (show s.heap.IsTuple a its.toArray from p) (by simp; omega) fun h2 x eb hx2 => ?_)))
    obtain ⟨o, ho, hcl⟩ := hx2
    exact wpAny_bind (wpAny_isInstance (T := "StopIteration") (b := true) ⟨o, ho, hcl⟩ isSubtype_stop (wpAny_pure ⟨rfl, I.turned (t' := s.toks) (fun b ob hb q => eb b ob hb q) f0 f1 f3 f4 f5⟩))
  self := fun A i s Q E st h => let ⟨⟨_, he⟩, _⟩ := st; wpAny_pyIter_enum he h
/-- for i, x in enumerate(e), e a list or a tuple -/
theorem pi_enm {X : Cx} {e : Expr} {ta : TA} {p pos tp : Pos} {elts : List Expr} {kk : Nat} (hg : Gl X "enumerate") (hm : X.mg "enumerate" = none) (ha : PA X [e] ta) (hs : noStar e = true) :
    PI X (.Tuple elts kk tp) (.Call (.Name "enumerate" p) [e] [] pos) (fun σ H R => ta σ H fun vs H1 => ∃ a xs, vs = [.ref a] ∧ ((SqL X.K H1 a xs ∧ R (Ite X.K a) H1) ∨ (SqT X.K H1 a xs ∧ R (IteT X.K a) H1))) := by
  refine ⟨fun pins s σ H R I h => ?_⟩
  refine Call_ (ld_blt I hg hm boot_enumerate (PyProof.Rows.callWith_type1 (thn (ha.run pos pins s σ H _ I h) fun us s1 ⟨vs, H1, I1, r1, a, xs, ex, q⟩ => ?_) (star_of hs) rfl))
  subst ex
  obtain ⟨u, rfl, ru⟩ := vals1 r1
  cases ru
  rcases q with ⟨hq, q⟩ | ⟨hq, q⟩
  · obtain ⟨its, rv, p2, hz⟩ := I1.list hq
    refine call_enumerate_list p2.isList fun h2 he hit _ hk => wpAny_pyIter_enum he ⟨s1.heap.objs.size + 1, [s1.heap.objs.size + 1, s1.heap.objs.size], _, _, H1, rfl, I1.kept (t' := s1.toks) hk, turn_enum a (s1.heap.objs.size + 1) s1.heap.objs.size, ⟨⟨.none, he⟩, hit, Nat.succ_ne_self _⟩, fun b hb => ?_, q⟩
    have hle : s1.heap.objs.size ≤ b := by
      rcases (by simpa using hb : b = s1.heap.objs.size + 1 ∨ b = s1.heap.objs.size) with rfl | rfl
      · exact Nat.le_succ _
      · exact Nat.le_refl _
    exact I1.fpOk hle (I1.hok.fresh hle)
  · obtain ⟨its, rv, p2, hz⟩ := I1.tuple hq
    have hal : a < s1.heap.objs.size := p2.lt
    refine enumCall (PySem.begins_tuple a its.toArray) p2 fun h2 he hit hk => wpAny_pyIter_enum he ⟨s1.heap.objs.size + 1, [s1.heap.objs.size + 1, s1.heap.objs.size], _, _, H1, rfl, I1.kept (t' := s1.toks) hk, turn_etup a (s1.heap.objs.size + 1) s1.heap.objs.size,
      ⟨⟨.none, he⟩, ⟨_, hit, rfl, rfl⟩, Nat.succ_ne_self _, Nat.ne_of_lt hal, Nat.ne_of_lt (Nat.lt_succ_of_lt hal)⟩, fun b hb => ?_, q⟩
    have hle : s1.heap.objs.size ≤ b := by
      rcases (by simpa using hb : b = s1.heap.objs.size + 1 ∨ b = s1.heap.objs.size) with rfl | rfl
      · exact Nat.le_succ _
      · exact Nat.le_refl _
    exact I1.fpOk hle (I1.hok.fresh hle)
/-- for x in e, e a list or a tuple -/
theorem pi_seq {X : Cx} {tg e : Expr} {te : TE} (he : PE X e te) :
    PI X tg e (fun σ H R => te σ H fun x H1 => ∃ a xs, x = .ref a ∧ ((SqL X.K H1 a xs ∧ R (Itl X.K a) H1) ∨ (SqT X.K H1 a xs ∧ R (Itt X.K a) H1))) := by
  refine ⟨fun pins s σ H R I h => thn (he.run pins s σ H _ I h) fun v s1 ⟨x, H1, I1, r1, a, xs, ex, q⟩ => ?_⟩
  subst ex
  cases r1
  have fp : ∀ b ∈ [s1.heap.objs.size], FpOk X pins H1 b := fun b hb => by
    rcases (by simpa using hb : b = s1.heap.objs.size) with rfl
    exact I1.fpOk (Nat.le_refl _) (I1.hok.fresh (Nat.le_refl _))
  rcases q with ⟨hq, q⟩ | ⟨hq, q⟩
  · obtain ⟨its, rv, p, _⟩ := I1.list hq
    exact wpAny_pyIter_list p.isList ⟨_, [s1.heap.objs.size], _, _, H1, rfl, I1.kept (t' := s1.toks) fun b o e => Heap.get?_push_of_some _ e, turn_list a _, ⟨_, Heap.get?_push_size _ rfl, rfl, rfl⟩, fp, q⟩
  · obtain ⟨its, rv, p, _⟩ := I1.tuple hq
    exact wpAny_pyIter_tuple (show s1.heap.IsTuple a its.toArray from p) ⟨_, [s1.heap.objs.size], _, _, H1, rfl, I1.kept (t' := s1.toks) fun b o e => Heap.get?_push_of_some _ e, turn_tuple a _, ⟨_, Heap.get?_push_size _ rfl, rfl, rfl⟩, fp, q⟩
end Z
end
section
set_option Elab.async false
set_option linter.all false
set_option maxRecDepth 100000
set_option maxHeartbeats 1000000
namespace Z
open PySem L2 PyProof.Rows
section
variable {T : Tb} {N : Nm} {G : Gm} {C : Cl} {k : Nat} {nm : List Str} {X : Cx} {sc : Scope} {W : WX}
variable {ea eb ec : Expr} {fa fb fc : SE} {pos : Pos} {es : List Expr} {aa : SA}

/-! ### built-ins -/
theorem blt_boot (b : Blt) : bootBuiltins b.name = some b.val := by
  cases b <;> decide +kernel
theorem blt_name (b : Blt) : b.name ≠ "__name__" := by
  cases b <;> decide +kernel
theorem q_blt (c : Cxt T N G C k nm X sc W) {b : Blt} {x : Str} {p : Pos} (hx : b.name = x) (h2 : glB sc x = true) (h3 : nmB x = true) (hs : es.all noStar = true) (hne : es ≠ []) (ha : PA X es (tA N X.K W aa)) :
    PE X (.Call (.Name x p) es [] pos) (tE N X.K W (sBlt b aa)) := by
  subst hx
  simp only [nmB, Bool.and_eq_true, Bool.not_eq_true'] at h3
  cases es with
  | nil => exact absurd rfl hne
  | cons e es =>
    simp only [List.all_cons, Bool.and_eq_true] at hs
    have key : PE X (.Call (.Name b.name p) (e :: es) [] pos) (tCB (rC N X.K (bltop b)) (tA N X.K W aa)) := by
      have hc := call_blt (N := N) (X := X) b c.calm
      have hb := blt_boot b
      have hm := c.tab.blt b
      cases b
      · exact pe_callB (id := "len") hc (c.gl _ h2) hm hb ha (blt_name .len) h3.1.1 (star_of hs.1) (stars_of hs.2)
      · exact pe_callTy (T := "str") hc (c.gl _ h2) hm hb ha (blt_name .str) h3.1.1 (star_of hs.1) (stars_of hs.2)
      · exact pe_callTy (T := "int") hc (c.gl _ h2) hm hb ha (blt_name .int) h3.1.1 (star_of hs.1) (stars_of hs.2)
      · exact pe_callTy (T := "tuple") hc (c.gl _ h2) hm hb ha (blt_name .tuple) h3.1.1 (star_of hs.1) (stars_of hs.2)
      · exact pe_callTy (T := "list") hc (c.gl _ h2) hm hb ha (blt_name .list) h3.1.1 (star_of hs.1) (stars_of hs.2)
      · exact pe_callB (id := "max") hc (c.gl _ h2) hm hb ha (blt_name .max) h3.1.1 (star_of hs.1) (stars_of hs.2)
      · exact pe_callB (id := "abs") hc (c.gl _ h2) hm hb ha (blt_name .abs) h3.1.1 (star_of hs.1) (stars_of hs.2)
    exact PE.imp (fun σ H Q ⟨ρ, hh, σd, rel, en, q⟩ => ⟨ρ, hh, σd, rel, en, ResE.bindEA q fun ds h1 _ ρ1 H1 vs g1 r1 q1 => ⟨ρ1, h1, ds, g1.rel, r1, q1.toV (quiet_blt b ds h1)⟩⟩) key
/-- the methods that are carried -/
def Bm.isL : Bm → Bool
  | .append | .extend | .pop | .popAt | .reverse | .clear => true
  | _ => false
theorem recv_at {ρ h H d v} (rel : RelH N X.K ρ h H) (rd : Rep X.K ρ H d v) (e : recvL h d = true) : tyV X.K "list" v H := by
  unfold recvL at e
  split at e
  · split at e
    · rename_i g
      obtain ⟨a, rfl, ea⟩ := rd.ref_inv
      obtain ⟨vs, z, _⟩ := rel.at ea g
      exact .inl ⟨rfl, vs, SqL.of z⟩
    · cases e
  · cases e
theorem bm_facts (b : Bm) (hb : b.isL = true) : ∃ id, id = b.ty ++ "." ++ b.nm ∧ b.ty = "list" ∧ Slot "list" (Str.ofString b.nm) id ∧ typeOf (.builtin id) = pure (.type "method_descriptor") := by
  cases b <;> first
    | (simp [Bm.isL] at hb; done)
    | exact ⟨_, rfl, rfl, PySem.F.slot_list_append, PySem.F.type_list_append⟩
    | exact ⟨_, rfl, rfl, PySem.F.slot_list_extend, PySem.F.type_list_extend⟩
    | exact ⟨_, rfl, rfl, PySem.F.slot_list_pop, PySem.F.type_list_pop⟩
    | exact ⟨_, rfl, rfl, PySem.F.slot_list_reverse, PySem.F.type_list_reverse⟩
    | exact ⟨_, rfl, rfl, PySem.F.slot_list_clear, PySem.F.type_list_clear⟩
theorem few_of {env : Env} {e : Expr} {es : List Expr} {cpos : Pos} (hs : (e :: es).all noStar = true) (hn : (e :: es).length < 30) :
    ((backTo cpos (starEach (e :: es) env)).all (fun x => !x.1) && (backToKw cpos (keywordEach [] env)).all (fun x => x.1.isSome) && decide ((e :: es).length + ([] : List Keyword).length + (if ([] : List Keyword).isEmpty then 0 else 1) < 30)) = true := by
  have hall : ∀ {es : List Expr}, es.all noStar = true → (backTo cpos (starEach es env)).all (fun x => !x.1) = true := by
    intro es
    induction es with
    | nil => intro _; rfl
    | cons e es ih =>
      intro h
      simp only [List.all_cons, Bool.and_eq_true] at h
      rw [star_of h.1]
      show (true && (backTo cpos (starEach es env)).all (fun x => !x.1)) = true
      rw [ih h.2]
      rfl
  rw [hall hs]
  show (true && true && decide _) = true
  simp only [Bool.and_self, Bool.true_and, decide_eq_true_eq]
  exact hn
theorem q_bm (c : Cxt T N G C k nm X sc W) {b : Bm} {x : Str} {apos : Pos} (hb : b.isL = true) (hx : Str.ofString b.nm = x) (hb0 : base0 ea = true) (hs : es.all noStar = true) (hn : es.length < 30) (hl : (apos.endLine == pos.line) = true)
    (ho : PE X ea (tE N X.K W fa)) (ha : PA X es (tA N X.K W aa)) (h0 : es = [] → aa = fun _ h => .ok [] h) : PE X (.Call (.Attribute ea x apos) es [] pos) (tE N X.K W (sBm b fa aa)) := by
  subst hx
  obtain ⟨id, hid, hty, slot, ty⟩ := bm_facts b hb
  have mt : MtR X id (rM N X.K (bmop b)) := by rw [hid]; exact mt_any b
  cases es with
  | nil =>
    cases h0 rfl
    refine PE.imp (fun σ H Q ⟨ρ, hh, σd, rel, en, q⟩ => ⟨ρ, hh, σd, rel, en, ResE.bindE q fun d1 h1 _ ρ1 H1 v1 g1 r1 q1 => ?_⟩) (pe_bm0 PySem.F.plainAttrs_list slot ty mt ho (base_of hb0) hl)
    split at q1
    · rename_i hr
      rw [R.bind_ok] at q1
      exact ⟨recv_at g1.rel r1 hr, ρ1, h1, d1, [], g1.rel, r1, .nil, q1.toV (quiet_bm b d1 [] h1)⟩
    · exact q1.elim
  | cons e es =>
    have hs' := hs
    simp only [List.all_cons, Bool.and_eq_true] at hs
    refine PE.imp (fun σ H Q ⟨ρ, hh, σd, rel, en, q⟩ => ⟨ρ, hh, σd, rel, en, ResE.bindE q fun d1 h1 _ ρ1 H1 v1 g1 r1 q1 => ?_⟩) (pe_bm PySem.F.plainAttrs_list slot ty mt ho ha (base_of hb0) (few_of hs' hn) hl (star_of hs.1) (stars_of hs.2))
    split at q1
    · rename_i hr
      exact ⟨recv_at g1.rel r1 hr, ρ1, h1, σd, g1.rel, en.mon g1.mon, ResE.bindEA q1 fun ds h2 _ ρ2 H2 vs g2 r2 q2 => ⟨ρ2, h2, d1, ds, g2.rel, r1.mon g2.mon, r2, q2.toV (quiet_bm b d1 ds h2)⟩⟩
    · exact q1.elim

/-! ### targets -/
def Tg.slots : Tg → List Nat
  | .nm i => [i]
  | .tp l => l
/-- a target's reading -/
def tG (N : Nm) (K : PySem.W.Frag) (tg : Tg) : TG := fun v σ H Q => ∃ ρ h σd d, RelH N K ρ h H ∧ EnvR K ρ H σd σ ∧ Rep K ρ H d v ∧ match tgset h tg d σd with
  | some σd2 => ∀ σ2, EnvR K ρ H σd2 σ2 → σ2.length = σ.length → (∀ j, j ∉ tg.slots → σ2[j]? = σ[j]?) → Q σ2 H
  | none => False
def gNames : List Nat → TGs
  | [] => gNil
  | i :: r => gCons (gName i) (gNames r)
theorem gNames_of {K ρ H} : ∀ {l : List Nat} {ds : List D} {vs : List V} {σd σd2 : Ev} {σ : L2.St} {Q : L2.St → Hp → Prop}, Reps K ρ H ds vs → EnvR K ρ H σd σ → tgl ds l σd = some σd2 →
    (∀ σ2, EnvR K ρ H σd2 σ2 → σ2.length = σ.length → (∀ j, j ∉ l → σ2[j]? = σ[j]?) → Q σ2 H) → gNames l vs σ H Q
  | [], ds, vs, σd, σd2, σ, Q, r, en, e, q => by
    cases r with
    | nil => simp only [tgl, Option.some.injEq] at e; subst e; exact ⟨rfl, q σ en rfl fun _ _ => rfl⟩
    | cons a b => simp [tgl] at e
  | i :: l, ds, vs, σd, σd2, σ, Q, r, en, e, q => by
    cases r with
    | nil => simp [tgl] at e
    | cons a b =>
      simp only [tgl] at e
      refine ⟨_, _, rfl, ?_⟩
      refine gNames_of b (en.set i a) e fun σ2 en2 hl hj => q σ2 en2 (by rw [hl, List.length_set]) fun j hn => ?_
      simp only [List.mem_cons, not_or] at hn
      rw [hj j hn.2, List.getElem?_set_ne (Ne.symm hn.1)]
def nmAt (nm : List Str) (i : Nat) (e : Expr) (sc : Scope) : Bool := match e with
  | .Name x _ => decide (nm[i]? = some x) && locB sc x
  | _ => false
def nmsAt (nm : List Str) (sc : Scope) : List Nat → List Expr → Bool
  | [], [] => true
  | i :: l, e :: es => nmAt nm i e sc && nmsAt nm sc l es
  | _, _ => false
def chkTg (nm : List Str) (sc : Scope) : Tg → Expr → Bool
  | .nm i, e => nmAt nm i e sc
  | .tp l, .Tuple es _ _ => nmsAt nm sc l es
  | _, _ => false
theorem pg_at (c : Cxt T N G C k nm X sc W) {i : Nat} {e : Expr} (h : nmAt nm i e sc = true) : PG X e (gName i) := by
  cases e <;> simp only [nmAt, Bool.false_eq_true, Bool.and_eq_true, decide_eq_true_eq] at h
  obtain ⟨h1, h2⟩ := c.loc _ h.2
  exact pg_name c.nd (by rw [c.nm]; exact h.1) h1 h2
theorem pgs_at (c : Cxt T N G C k nm X sc W) : ∀ {l : List Nat} {es : List Expr}, nmsAt nm sc l es = true → PGs X es (gNames l) ∧ (assignEach es X.env).length = l.length ∧ (assignEach es X.env).findIdx? (·.1) = none
  | [], [], _ => ⟨pgs_nil, rfl, rfl⟩
  | [], _ :: _, h => by simp [nmsAt] at h
  | _ :: _, [], h => by simp [nmsAt] at h
  | i :: l, e :: es, h => by
    simp only [nmsAt, Bool.and_eq_true] at h
    obtain ⟨i1, i2, i3⟩ := pgs_at c h.2
    have h1 := pg_at c h.1
    cases e <;> simp only [nmAt, Bool.false_eq_true, false_and] at h
    refine ⟨pgs_cons h1 i1 rfl, ?_, ?_⟩
    · show (assignEach es X.env).length + 1 = _
      rw [i2]; rfl
    · show List.findIdx? (·.1) ((false, _) :: assignEach es X.env) = none
      rw [List.findIdx?_cons, i3]
      rfl
theorem tgl_len : ∀ {l : List Nat} {ds : List D} {σ σ2 : Ev}, tgl ds l σ = some σ2 → ds.length = l.length
  | [], ds, _, _, e => by cases ds with
    | nil => rfl
    | cons => simp [tgl] at e
  | i :: l, ds, _, _, e => by cases ds with
    | nil => simp [tgl] at e
    | cons d ds => simp only [tgl] at e; simp [tgl_len e]
theorem q_tg (c : Cxt T N G C k nm X sc W) {tg : Tg} {e : Expr} (h : chkTg nm sc tg e = true) : PG X e (tG N X.K tg) := by
  cases tg with
  | nm i =>
    refine ⟨fun pins s σ H v u Q I r ⟨ρ, hh, σd, d, rel, en, rd, q⟩ => (pg_at c h).run pins s σ H v u Q I r ?_⟩
    exact q _ (en.set i rd) (List.length_set ..) fun j hj => by
      have : j ≠ i := fun z => hj (by rw [z]; exact List.mem_singleton.mpr rfl)
      rw [List.getElem?_set_ne (Ne.symm this)]
  | tp l =>
    cases e <;> simp only [chkTg, Bool.false_eq_true] at h
    obtain ⟨g, hlen, hst⟩ := pgs_at c h
    refine ⟨fun pins s σ H v u Q I r ⟨ρ, hh, σd, d, rel, en, rd, q⟩ => ?_⟩
    unfold tgset at q
    dsimp only at q
    cases hs : seqOf hh d with
    | none => rw [hs] at q; exact q.elim
    | some ds =>
      rw [hs] at q
      dsimp only at q
      cases ht : tgl ds l σd with
      | none => rw [ht] at q; exact q.elim
      | some σd2 =>
        rw [ht] at q
        obtain ⟨a, vs, rfl, hq, rs⟩ := seq_at rel rd hs
        have hn : vs.length = l.length := by rw [← rs.length]; exact tgl_len ht
        rcases hq with hq | hq
        · exact (pg_lst c.calm g hlen hst).run pins s σ H _ u Q I r ⟨a, vs, rfl, hq, hn, gNames_of rs en ht q⟩
        · exact (pg_tup c.calm g hlen hst).run pins s σ H _ u Q I r ⟨a, vs, rfl, hq, hn, gNames_of rs en ht q⟩

/-! ### what is walked -/
inductive SrcJ (K : PySem.W.Frag) (ρ : Rho) (H : Hp) : Src → L2.It → Prop where
  | lst {n : Nat} {a : Addr} (e : ρ n = some a) : SrcJ K ρ H (.lst n) (Itl K a)
  | tup {ds : List D} {a : Addr} {vs : List V} (e : SqT K H a vs) (r : Reps K ρ H ds vs) : SrcJ K ρ H (.tup ds) (Itt K a)
  | rng (lo : Int) (n : Nat) : SrcJ K ρ H (.rng lo n) (Itr lo n)
  | elst {n : Nat} {a : Addr} (e : ρ n = some a) : SrcJ K ρ H (.elst n) (Ite K a)
  | etup {ds : List D} {a : Addr} {vs : List V} (e : SqT K H a vs) (r : Reps K ρ H ds vs) : SrcJ K ρ H (.etup ds) (IteT K a)
theorem SrcJ.mon {K ρ H ρ' H' s J} (m : Mon K ρ H ρ' H') (j : SrcJ K ρ H s J) : SrcJ K ρ' H' s J := by
  cases j with
  | lst e => exact .lst (m.rho _ _ e)
  | tup e r => exact .tup (m.tup _ _ e) (r.mon m)
  | rng lo n => exact .rng lo n
  | elst e => exact .elst (m.rho _ _ e)
  | etup e r => exact .etup (m.tup _ _ e) (r.mon m)
theorem Reps.none_of {K ρ H ds vs} (r : Reps K ρ H ds vs) {i : Nat} (e : ds[i]? = none) : vs.length ≤ i := by
  rw [← r.length]
  exact List.getElem?_eq_none_iff.mp e
theorem seqL_at {K ρ h H n a ds} (rel : RelH N K ρ h H) (e : ρ n = some a) (g : h.get n = some (.lst ds) ∨ h.get n = some (.frz ds)) : ∃ vs, SqL K H a vs ∧ Reps K ρ H ds vs := by
  rcases g with g | g
  · obtain ⟨vs, z, r⟩ := rel.at e g
    exact ⟨vs, SqL.of z, r⟩
  · obtain ⟨o, vs, z, r⟩ := rel.at e g
    exact ⟨vs, .inl (.inr ⟨o, z⟩), r⟩
theorem lst_item {h : Hs} {n i : Nat} {o : Option (Option D)} {f : Nat → D → D} (e : (match h.get n with
    | some (.lst ds) => some (ds[i]?.map (f i))
    | some (.frz ds) => some (ds[i]?.map (f i))
    | _ => none) = o) {z} (hz : o = some z) : ∃ ds, (h.get n = some (.lst ds) ∨ h.get n = some (.frz ds)) ∧ ds[i]?.map (f i) = z := by
  subst hz
  split at e
  · exact ⟨_, .inl ‹_›, Option.some.inj e⟩
  · exact ⟨_, .inr ‹_›, Option.some.inj e⟩
  · cases e
theorem src_stop {K ρ h H s J i} (rel : RelH N K ρ h H) (j : SrcJ K ρ H s J) (e : s.item h i = some none) : J.stop i H := by
  cases j with
  | @lst n a hr =>
    have e2 : ∃ ds, (h.get n = some (.lst ds) ∨ h.get n = some (.frz ds)) ∧ ds[i]? = none := by
      unfold Src.item at e
      dsimp only at e
      split at e
      · exact ⟨_, .inl ‹_›, Option.some.inj e⟩
      · exact ⟨_, .inr ‹_›, Option.some.inj e⟩
      · cases e
    obtain ⟨ds, g, hn⟩ := e2
    obtain ⟨vs, z, r⟩ := seqL_at rel hr g
    exact ⟨vs, z, r.none_of hn⟩
  | tup ht r =>
    have e2 := Option.some.inj e
    exact ⟨_, ht, r.none_of e2⟩
  | rng lo n =>
    have e2 := Option.some.inj e
    by_cases hlt : i < n
    · rw [if_pos hlt] at e2; cases e2
    · exact Nat.le_of_not_lt hlt
  | @elst n a hr =>
    have e2 : ∃ ds, (h.get n = some (.lst ds) ∨ h.get n = some (.frz ds)) ∧ ds[i]? = none := by
      unfold Src.item at e
      dsimp only at e
      split at e
      · exact ⟨_, .inl ‹_›, Option.map_eq_none_iff.mp (Option.some.inj e)⟩
      · exact ⟨_, .inr ‹_›, Option.map_eq_none_iff.mp (Option.some.inj e)⟩
      · cases e
    obtain ⟨ds, g, hn⟩ := e2
    obtain ⟨vs, z, r⟩ := seqL_at rel hr g
    exact ⟨vs, z, r.none_of hn⟩
  | etup ht r =>
    have e2 := Option.map_eq_none_iff.mp (Option.some.inj e)
    exact ⟨_, ht, r.none_of e2⟩
theorem src_go {K ρ h H s J i d} (rel : RelH N K ρ h H) (j : SrcJ K ρ H s J) (e : s.item h i = some (some d)) : J.go i H ∧ ∀ x H2, J.yld i H x H2 → Grow N K ρ H ρ h H2 ∧ Rep K ρ H2 d x := by
  cases j with
  | @lst n a hr =>
    have e2 : ∃ ds, (h.get n = some (.lst ds) ∨ h.get n = some (.frz ds)) ∧ ds[i]? = some d := by
      unfold Src.item at e
      dsimp only at e
      split at e
      · exact ⟨_, .inl ‹_›, Option.some.inj e⟩
      · exact ⟨_, .inr ‹_›, Option.some.inj e⟩
      · cases e
    obtain ⟨ds, g, hd⟩ := e2
    obtain ⟨vs, z, r⟩ := seqL_at rel hr g
    obtain ⟨v, hv, rv⟩ := r.get hd
    refine ⟨⟨vs, v, z, hv⟩, fun x H2 y => ?_⟩
    obtain ⟨rfl, y⟩ := y
    have := y vs z
    rw [hv] at this
    cases this
    exact ⟨.refl rel, rv⟩
  | tup ht r =>
    have e2 := Option.some.inj e
    obtain ⟨v, hv, rv⟩ := r.get e2
    refine ⟨⟨_, v, ht, hv⟩, fun x H2 y => ?_⟩
    obtain ⟨rfl, y⟩ := y
    have := y _ ht
    rw [hv] at this
    cases this
    exact ⟨.refl rel, rv⟩
  | rng lo n =>
    have e2 := Option.some.inj e
    by_cases hlt : i < n
    · rw [if_pos hlt] at e2
      cases e2
      refine ⟨hlt, fun x H2 y => ?_⟩
      obtain ⟨rfl, rfl⟩ := y
      exact ⟨.refl rel, .int _⟩
    · rw [if_neg hlt] at e2; cases e2
  | @elst n a hr =>
    have e2 : ∃ ds d0, (h.get n = some (.lst ds) ∨ h.get n = some (.frz ds)) ∧ ds[i]? = some d0 ∧ d = .tup [.int i, d0] := by
      unfold Src.item at e
      dsimp only at e
      split at e
      · obtain ⟨d0, h1, h2⟩ := Option.map_eq_some_iff.mp (Option.some.inj e)
        exact ⟨_, d0, .inl ‹_›, h1, h2.symm⟩
      · obtain ⟨d0, h1, h2⟩ := Option.map_eq_some_iff.mp (Option.some.inj e)
        exact ⟨_, d0, .inr ‹_›, h1, h2.symm⟩
      · cases e
    obtain ⟨ds, d0, g, hd, rfl⟩ := e2
    obtain ⟨vs, z, r⟩ := seqL_at rel hr g
    obtain ⟨v, hv, rv⟩ := r.get hd
    refine ⟨⟨vs, v, z, hv⟩, fun x H2 y => ?_⟩
    obtain ⟨t, x0, rfl, ht, rfl, y⟩ := y
    have := y vs z
    rw [hv] at this
    cases this
    exact Grow.tuple rel ht (.cons (.int _) (.cons rv .nil))
  | etup hq r =>
    obtain ⟨d0, hd, h2⟩ := Option.map_eq_some_iff.mp (Option.some.inj e)
    subst h2
    obtain ⟨v, hv, rv⟩ := r.get hd
    refine ⟨⟨_, v, hq, hv⟩, fun x H2 y => ?_⟩
    obtain ⟨t, x0, rfl, ht, rfl, y⟩ := y
    have := y _ hq
    rw [hv] at this
    cases this
    exact Grow.tuple rel ht (.cons (.int _) (.cons rv .nil))

/-- an iterable's reading -/
def tI (N : Nm) (K : PySem.W.Frag) (W : WX) (f : Ev → Hs → R Src) : TI := fun σ H R => ∃ ρ h σd, RelH N K ρ h H ∧ EnvR K ρ H σd σ ∧ match f σd h with
  | .ok s h' => ∀ ρ' H' J, Grow N K ρ H ρ' h' H' → SrcJ K ρ' H' s J → R J H'
  | .exc c fs h' => ∀ ρ' H' dd fv, Grow N K ρ H ρ' h' H' → H' dd = some (.xd fv) → FldR N K ρ' H' fs fv → W (.ref (N.cls c)) (some dd) σ H'
  | .bad => False
theorem PI.imp {tg it : Expr} {t t' : TI} (h : ∀ σ H R, t' σ H R → t σ H R) (p : PI X tg it t) : PI X tg it t' := ⟨fun pins s σ H R I q => p.run pins s σ H R I (h σ H R q)⟩
theorem q_seq {tge : Expr} (ha : PE X ea (tE N X.K W fa)) : PI X tge ea (tI N X.K W fun σ h => (fa σ h).bind fun d h1 => match srcOf h1 d with
    | some s => .ok s h1
    | none => .bad) := by
  refine PI.imp (fun σ H R ⟨ρ, hh, σd, rel, en, q⟩ => ⟨ρ, hh, σd, rel, en, ?_⟩) (pi_seq ha)
  dsimp only at q
  cases hf : fa σd hh with
  | bad => rw [hf] at q; exact q
  | exc => rw [hf] at q; exact q
  | ok d h1 =>
    rw [hf, Z.R.bind_ok] at q
    intro ρ1 H1 v g r
    cases d <;> try exact q.elim
    · obtain ⟨a, vs, rfl, z, rs⟩ := r.tup_inv
      exact ⟨a, vs, rfl, .inr ⟨z, q ρ1 H1 _ g (.tup z rs)⟩⟩
    · rename_i n
      obtain ⟨a, rfl, ea⟩ := r.ref_inv
      unfold srcOf at q
      dsimp only at q
      cases hg : h1.get n with
      | none => rw [hg] at q; exact q.elim
      | some o =>
        rw [hg] at q
        cases o <;> try exact q.elim
        · obtain ⟨vs, z, _⟩ := seqL_at g.rel ea (.inl hg)
          exact ⟨a, vs, rfl, .inl ⟨z, q ρ1 H1 _ g (.lst ea)⟩⟩
        · obtain ⟨vs, z, _⟩ := seqL_at g.rel ea (.inr hg)
          exact ⟨a, vs, rfl, .inl ⟨z, q ρ1 H1 _ g (.lst ea)⟩⟩
theorem q_enm (c : Cxt T N G C k nm X sc W) {elts : List Expr} {kk : Nat} {tp p : Pos} (h2 : glB sc "enumerate" = true) (hs : noStar ea = true) (ha : PE X ea (tE N X.K W fa)) : PI X (.Tuple elts kk tp) (.Call (.Name "enumerate" p) [ea] [] pos) (tI N X.K W fun σ h => (fa σ h).bind fun d h1 => match esrcOf h1 d with
    | some s => .ok s h1
    | none => .bad) := by
  refine PI.imp (fun σ H R ⟨ρ, hh, σd, rel, en, q⟩ => ⟨ρ, hh, σd, rel, en, ?_⟩) (pi_enm (c.gl _ h2) c.tab.enm (pa_cons ha pa_nil (star_of hs)) hs)
  dsimp only at q
  cases hf : fa σd hh with
  | bad => rw [hf] at q; exact q
  | exc => rw [hf] at q; exact q
  | ok d h1 =>
    rw [hf, Z.R.bind_ok] at q
    intro ρ1 H1 v g r
    cases d <;> try exact q.elim
    · obtain ⟨a, vs, rfl, z, rs⟩ := r.tup_inv
      exact ⟨a, vs, rfl, .inr ⟨z, q ρ1 H1 _ g (.etup z rs)⟩⟩
    · rename_i n
      obtain ⟨a, rfl, ea⟩ := r.ref_inv
      unfold esrcOf at q
      dsimp only at q
      cases hg : h1.get n with
      | none => rw [hg] at q; exact q.elim
      | some o =>
        rw [hg] at q
        cases o <;> try exact q.elim
        · obtain ⟨vs, z, _⟩ := seqL_at g.rel ea (.inl hg)
          exact ⟨a, vs, rfl, .inl ⟨z, q ρ1 H1 _ g (.elst ea)⟩⟩
        · obtain ⟨vs, z, _⟩ := seqL_at g.rel ea (.inr hg)
          exact ⟨a, vs, rfl, .inl ⟨z, q ρ1 H1 _ g (.elst ea)⟩⟩
theorem small_of {i : Int} (h : smallI i = true) : -(2 ^ 62) ≤ i ∧ i < 2 ^ 62 := by
  unfold smallI at h
  have := of_decide_eq_true h
  omega
theorem q_rng1 (c : Cxt T N G C k nm X sc W) {tge : Expr} {p : Pos} (h2 : glB sc "range" = true) (hs : noStar ea = true) (ha : PE X ea (tE N X.K W fa)) : PI X tge (.Call (.Name "range" p) [ea] [] pos) (tI N X.K W fun σ h => (fa σ h).bind fun d h1 => match d with
    | .int j => if smallI j then .ok (.rng 0 j.toNat) h1 else .bad
    | _ => .bad) := by
  refine PI.imp (fun σ H R ⟨ρ, hh, σd, rel, en, q⟩ => ⟨ρ, hh, σd, rel, en, ?_⟩) (pi_range1 (c.gl _ h2) c.tab.rng (pa_cons ha pa_nil (star_of hs)) (star_of hs))
  dsimp only at q
  cases hf : fa σd hh with
  | bad => rw [hf] at q; exact q
  | exc => rw [hf] at q; exact q
  | ok d h1 =>
    rw [hf, Z.R.bind_ok] at q
    intro ρ1 H1 v g r
    cases d <;> try exact q.elim
    rename_i j
    cases r.int_inv
    dsimp only at q
    by_cases hj : smallI j = true
    · rw [if_pos hj] at q
      have := small_of hj
      exact ⟨j, rfl, this.1, this.2, q ρ1 H1 _ g (.rng 0 j.toNat)⟩
    · rw [if_neg hj] at q
      exact q.elim
theorem q_rng2 (c : Cxt T N G C k nm X sc W) {tge : Expr} {p : Pos} (h2 : glB sc "range" = true) (hs : noStar ea = true) (hs2 : noStar eb = true) (ha : PE X ea (tE N X.K W fa)) (hb : PE X eb (tE N X.K W fb)) :
    PI X tge (.Call (.Name "range" p) [ea, eb] [] pos) (tI N X.K W fun σ h => (fa σ h).bind fun d h1 => (fb σ h1).bind fun e h2 => match d, e with
    | .int i, .int j => if smallI i && smallI j then .ok (.rng i (j - i).toNat) h2 else .bad
    | _, _ => .bad) := by
  refine PI.imp (fun σ H R ⟨ρ, hh, σd, rel, en, q⟩ => ⟨ρ, hh, σd, rel, en, ?_⟩) (pi_range2 (c.gl _ h2) c.tab.rng (pa_cons ha (pa_cons hb pa_nil (star_of hs2)) (star_of hs)) (by rw [star_of hs, star_of hs2]; rfl) (star_of hs2))
  dsimp only at q
  cases hf : fa σd hh with
  | bad => rw [hf] at q; exact q
  | exc => rw [hf] at q; exact q
  | ok d h1 =>
    rw [hf, Z.R.bind_ok] at q
    intro ρ1 H1 v g r
    refine ⟨ρ1, h1, σd, g.rel, en.mon g.mon, ?_⟩
    cases hf2 : fb σd h1 with
    | bad => rw [hf2] at q; exact q
    | exc => rw [hf2] at q; exact fun ρ2 H2 dd fv g2 a b => q ρ2 H2 dd fv (g.trans g2) a b
    | ok e h2 =>
      rw [hf2, Z.R.bind_ok] at q
      intro ρ2 H2 v2 g2 r2
      cases d <;> try exact q.elim
      cases e <;> try exact q.elim
      rename_i i j
      cases r.int_inv
      cases r2.int_inv
      dsimp only at q
      by_cases hj : (smallI i && smallI j) = true
      · rw [if_pos hj] at q
        simp only [Bool.and_eq_true] at hj
        have z1 := small_of hj.1
        have z2 := small_of hj.2
        exact ⟨i, j, rfl, ⟨z1.1, z1.2, z2.1, z2.2⟩, q ρ2 H2 _ (g.trans g2) (.rng i (j - i).toNat)⟩
      · rw [if_neg hj] at q
        exact q.elim
end
end Z
end
section
set_option Elab.async false
set_option linter.all false
set_option maxRecDepth 100000
set_option maxHeartbeats 1000000
namespace Z
open PySem L2 PyProof.Rows

/-! ## comprehensions -/
theorem touch_tp {K : PySem.W.Frag} {H : Hp} {a : Addr} {vs ws : List V} (e : H a = some (.lst vs)) : ∀ b xs, SqT K H b xs → SqT K (upd H a (.lst ws)) b xs := fun b xs q => by
  rcases q with q | q
  · have hb : b ≠ a := fun z => by
      subst z
      rcases q with q | ⟨_, q⟩ <;> rw [e] at q <;> cases q
    left
    rcases q with q | ⟨o1, q⟩
    · exact .inl ((upd_ne hb).trans q)
    · exact .inr ⟨o1, (upd_ne hb).trans q⟩
  · exact .inr q
/-- a list that stands in no slot is written -/
theorem Grow.touch {N K ρ0 H0 ρ h H} {a : Addr} {vs ws : List V} (g : Grow N K ρ0 H0 ρ h H) (h0 : H0 a = none) (hn : ∀ n, ρ n ≠ some a) (e : H a = some (.lst vs)) : Grow N K ρ0 H0 ρ h (upd H a (.lst ws)) := by
  have tp := touch_tp (K := K) (ws := ws) e
  have m : Mon K ρ H ρ (upd H a (.lst ws)) := ⟨fun _ _ e => e, tp⟩
  refine ⟨⟨g.rel.inj, fun n o z => ?_, g.rel.cod, g.rel.fresh⟩, g.mon.trans m, fun b o e2 n => ?_, g.new⟩
  · obtain ⟨b, e1, r⟩ := g.rel.dom n o z
    exact ⟨b, e1, r.mon m (upd_ne fun z => hn n (z ▸ e1))⟩
  · have hb : b ≠ a := fun z => by subst z; rw [h0] at e2; cases e2
    exact (upd_ne hb).trans (g.frm b o e2 n)
/-- it comes to stand in a new slot -/
theorem Grow.own {N K ρ0 H0 ρ h H} {a : Addr} {vs : List V} {ds : List D} (g : Grow N K ρ0 H0 ρ h H) (h0 : H0 a = none) (hn : ∀ n, ρ n ≠ some a) (e : H a = some (.lst vs)) (r : Reps K ρ H ds vs) : Grow N K ρ0 H0 (ρ.put h.n a) (h.new (.lst ds)) H := by
  have z := g.rel.rho_new
  have old : ∀ {n}, n ≠ h.n → (ρ.put h.n a) n = ρ n := fun {n} e => if_neg e
  have same : (ρ.put h.n a) h.n = some a := if_pos rfl
  have m : Mon K ρ H (ρ.put h.n a) H := ⟨fun n b e => (old fun w => by rw [w, z] at e; cases e).trans e, fun _ _ e => e⟩
  refine ⟨⟨fun x y b e1 e2 => ?_, fun n o2 e2 => ?_, fun n b e2 => ?_, fun n hz => ?_⟩, g.mon.trans m, g.frm, fun n b e2 => ?_⟩
  · by_cases h1 : x = h.n <;> by_cases h2 : y = h.n
    · rw [h1, h2]
    · rw [h1, same] at e1; cases e1; rw [old h2] at e2; exact absurd e2 (hn y)
    · rw [h2, same] at e2; cases e2; rw [old h1] at e1; exact absurd e1 (hn x)
    · rw [old h1] at e1; rw [old h2] at e2; exact g.rel.inj x y b e1 e2
  · rw [Hs.get_new] at e2
    by_cases hm : n = h.n
    · subst hm
      rw [if_pos rfl] at e2
      cases e2
      exact ⟨a, same, vs, e, r.mon m⟩
    · rw [if_neg hm] at e2
      obtain ⟨b, eb, r⟩ := g.rel.dom n o2 e2
      exact ⟨b, (old hm).trans eb, r.mon m rfl⟩
  · rw [Hs.get_new]
    by_cases hm : n = h.n
    · exact ⟨_, if_pos hm⟩
    · rw [if_neg hm]; exact g.rel.cod n b ((old hm).symm.trans e2)
  · have h1 : h.n + 1 ≤ n := hz
    rw [Hs.get_new, if_neg (by omega)]
    exact g.rel.fresh n (by omega)
  · by_cases hm : n = h.n
    · subst hm; rw [same] at e2; cases e2; exact .inr h0
    · rw [old hm] at e2; exact g.new n b e2
theorem Grow.away {N K ρ H ρ' h' H'} {a : Addr} {o : HO} (g : Grow N K ρ H ρ' h' H') (hn : ∀ n, ρ n ≠ some a) (e : H a = some o) : (∀ n, ρ' n ≠ some a) ∧ H' a = some o :=
  ⟨fun n q => (g.new n a q).elim (fun z => hn n z) (fun z => nomatch (e.symm.trans z)), g.frm a o e hn⟩
theorem EnvR.out {K ρ H} {σd : Ev} {σ : L2.St} (e : EnvR K ρ H σd σ) (i : Nat) : EnvR K ρ H (σd.set i none) (σ.set i none) := by
  refine ⟨by rw [List.length_set, List.length_set]; exact e.1, fun j d' q => ?_⟩
  by_cases h : i = j
  · subst h
    by_cases hl : i < σd.length
    · rw [List.getElem?_set_self hl] at q
      cases q
    · rw [List.getElem?_eq_none (by simpa using hl)] at q; cases q
  · rw [List.getElem?_set_ne h] at q ⊢
    exact e.2 j d' q
theorem EnvR.wipe {K ρ H} {σd : Ev} {σ : L2.St} (e : EnvR K ρ H σd σ) : ∀ vs : List Nat, EnvR K ρ H (wipeD σd vs) (L2.wipe σ vs)
  | [] => e
  | v :: vs => (EnvR.wipe e vs).out v
theorem wipe_at (σ : L2.St) (j : Nat) : ∀ vs : List Nat, (L2.wipe σ vs)[j]? = if j ∈ vs then (σ[j]?).map (fun _ => none) else σ[j]?
  | [] => by simp [L2.wipe]
  | v :: vs => by
    have ih := wipe_at σ j vs
    unfold L2.wipe
    by_cases h : v = j
    · subst h
      rw [if_pos List.mem_cons_self]
      by_cases hl : v < σ.length
      · rw [List.getElem?_set_self (by rw [wipe_length]; exact hl), List.getElem?_eq_getElem hl]
        rfl
      · rw [List.getElem?_eq_none (by rw [List.length_set, wipe_length]; omega), List.getElem?_eq_none (by omega)]
        rfl
    · rw [List.getElem?_set_ne h, ih]
      by_cases hm : j ∈ vs
      · rw [if_pos hm, if_pos (List.mem_cons_of_mem _ hm)]
      · rw [if_neg hm, if_neg (by simp only [List.mem_cons, not_or]; exact ⟨fun e => h e.symm, hm⟩)]
theorem wipe_eq {σ σ2 : L2.St} {vs l : List Nat} (hs : ∀ j ∈ l, j ∈ vs) (hl : σ2.length = (L2.wipe σ vs).length) (h : ∀ j, j ∉ l → σ2[j]? = (L2.wipe σ vs)[j]?) : L2.wipe σ2 vs = L2.wipe σ vs := by
  apply List.ext_getElem?
  intro j
  rw [wipe_at σ2]
  by_cases hj : j ∈ vs
  · rw [if_pos hj, wipe_at σ, if_pos hj]
    rw [wipe_length] at hl
    by_cases hlt : j < σ.length
    · rw [List.getElem?_eq_getElem (by omega : j < σ2.length), List.getElem?_eq_getElem hlt]
      rfl
    · rw [List.getElem?_eq_none (by omega), List.getElem?_eq_none (by omega)]
  · rw [if_neg hj]
    exact h j fun z => hj (hs j z)
theorem lookup_relabel {env : Env} {k0 : NameKind} (h0 : (k0 == NameKind.free) = false) : ∀ {names : List (Str × NameKind)} {x : Str}, names.lookup x = some k0 →
    (names.map fun (n, k) => if (k == NameKind.free && env.scope.kind == .function && env.kindOf n == some .cell) then (n, NameKind.cell) else (n, k)).lookup x = some k0
  | [], _, h => by simp at h
  | (n, k) :: r, x, h => by
    have ih := @lookup_relabel env k0 h0 r x
    show List.lookup x ((if (k == NameKind.free && env.scope.kind == .function && env.kindOf n == some .cell) = true then (n, NameKind.cell) else (n, k)) :: _) = _
    cases hx : x == n with
    | true =>
      simp only [List.lookup_cons, hx] at h
      cases h
      rw [if_neg (by rw [h0]; simp)]
      simp only [List.lookup_cons, hx]
    | false =>
      simp only [List.lookup_cons, hx] at h
      split <;> (simp only [List.lookup_cons, hx]; exact ih h)
theorem lookup_relabel_free {env : Env} : ∀ {names : List (Str × NameKind)} {x : Str}, names.lookup x = some .free →
    (names.map fun (n, k) => if (k == NameKind.free && env.scope.kind == .function && env.kindOf n == some .cell) then (n, NameKind.cell) else (n, k)).lookup x = some .cell ∨
    (names.map fun (n, k) => if (k == NameKind.free && env.scope.kind == .function && env.kindOf n == some .cell) then (n, NameKind.cell) else (n, k)).lookup x = some .free
  | [], _, h => by simp at h
  | (n, k) :: r, x, h => by
    have ih := @lookup_relabel_free env r x
    show List.lookup x ((if (k == NameKind.free && env.scope.kind == .function && env.kindOf n == some .cell) = true then (n, NameKind.cell) else (n, k)) :: _) = _ ∨ List.lookup x ((if (k == NameKind.free && env.scope.kind == .function && env.kindOf n == some .cell) = true then (n, NameKind.cell) else (n, k)) :: _) = _
    cases hx : x == n with
    | true =>
      simp only [List.lookup_cons, hx] at h
      cases h
      split
      · left; simp only [List.lookup_cons, hx]
      · right; simp only [List.lookup_cons, hx]
    | false =>
      simp only [List.lookup_cons, hx] at h
      split <;> (simp only [List.lookup_cons, hx]; exact ih h)
def noW : WX := fun _ _ _ _ => False
section
variable {T : Tb} {N : Nm} {G : Gm} {C : Cl} {k : Nat} {nm : List Str} {X : Cx} {sc : Scope} {W : WX}
theorem Cxt.blk (c : Cxt T N G C k nm X sc W) (s : Shared) (H : Hp) (scope : Scope) (D : Addr) (cl : List (Str × Addr)) (fp : List Addr) : Cxt T N G C k nm (X.blk s H scope (compEnvC scope cl D X.env) fp) scope noW := by
  have lk : ∀ {x k0}, (k0 == NameKind.free) = false → scope.names.lookup x = some k0 → (compEnvC scope cl D X.env).scope.names.lookup x = some k0 := fun h0 h => lookup_relabel h0 h
  refine ⟨c.tab, c.nm, c.nd, c.calm, c.room, c.gd, fun x h => ?_, fun x h => ?_, fun x h => ?_, fun x h => ?_, fun u s' ⟨_, _, _, _, _, _, _, _, _, _, _, _, _, _, _, _, w⟩ => w.elim⟩
  · unfold visB at h
    split at h
    · exact .inl (lk rfl ‹_›)
    · exact .inr (.inl (lk rfl ‹_›))
    · rcases lookup_relabel_free (env := X.env) ‹_› with z | z
      · exact .inr (.inl z)
      · exact .inr (.inr z)
    · cases h
  · unfold glB at h
    split at h
    · exact lk rfl ‹_›
    · cases h
  · unfold locB at h
    split at h
    · have z := lk rfl ‹_›
      exact ⟨.inl z, .inr z⟩
    · rename_i e
      refine ⟨.inr (lk rfl e), .inl ?_⟩
      show (scope.names.lookup x == some .cell) = true
      rw [e]; rfl
    · cases h
  · unfold freB at h
    split at h
    · exact .inl (lk rfl ‹_›)
    · exact lookup_relabel_free ‹_›
    · cases h
def ownL (nm : List Str) (own : List Nat) : List (Str × Nat) := own.filterMap fun i => nm[i]?.map fun x => (x, i)
/-- a comprehension's names -/
def blkB (nm : List Str) (sc scope : Scope) (own : List Nat) : Bool :=
  (match scope.kind with | .function => true | _ => false) && (scope.names.all fun y => decide (scope.names.lookup y.1 = some y.2)) && decide ((ownL nm own).map (·.2) = own) &&
    (scope.names.all fun y => match y.2 with
      | .free => freB sc y.1
      | .local => decide (y.1 ∈ (ownL nm own).map (·.1)) || decide (y.1 ∉ nm)
      | .cell => decide (y.1 ∈ (ownL nm own).map (·.1)) || decide (y.1 ∉ nm)
      | _ => true)
theorem blk_of (c : Cxt T N G C k nm X sc W) {scope : Scope} {own : List Nat} (h : blkB nm sc scope own = true) : BlkOk X.N X.env.scope scope (ownL nm own) ∧ (ownL nm own).map (·.2) = own := by
  unfold blkB at h
  simp only [Bool.and_eq_true, List.all_eq_true, decide_eq_true_eq] at h
  obtain ⟨⟨⟨h1, h2⟩, h3⟩, h4⟩ := h
  refine ⟨⟨?_, h2, fun p hp => ?_, fun y hy e => ?_, fun y hy e => ?_⟩, h3⟩
  · split at h1
    · assumption
    · cases h1
  · rw [c.nm]
    obtain ⟨i, _, hi⟩ := List.mem_filterMap.mp hp
    cases hx : nm[i]? with
    | none => rw [hx] at hi; cases hi
    | some x => rw [hx] at hi; cases hi; exact hx
  · have q := h4 y hy
    simp only [e] at q
    exact c.fre _ q
  · have q := h4 y hy
    rw [c.nm]
    rcases e with e | e <;> (simp only [e, Bool.or_eq_true, decide_eq_true_eq] at q; exact q)
/-- the turns -/
theorem comp_turns {J : L2.It} {K : PySem.W.Frag} {fi : Src} {tg : Tg} {own : List Nat} {ft : ST} {fe : SE} {σd : Ev} {σ : L2.St} {ρ1 : Rho} {H1 : Hp} {D0 : Addr} {ds : List D} {h2 : Hs} {Q : VK}
    (hsub : ∀ j ∈ tg.slots, j ∈ own) (h0 : H1 D0 = none) (en : EnvR K ρ1 H1 σd σ) (j : SrcJ K ρ1 H1 fi J)
    (q : ∀ ρ' H', Grow N K ρ1 H1 ρ' (h2.new (.lst ds)) H' → ρ' h2.n = some D0 → Q (.ref D0) H') (i m : Nat) (H : Hp)
    (w : ∃ ρ h acc vs, Grow N K ρ1 H1 ρ h H ∧ (∀ n, ρ n ≠ some D0) ∧ H D0 = some (.lst vs) ∧ Reps K ρ H acc vs ∧ compN ft fe fi tg (wipeD σd own) m i acc h = .ok ds h2) :
    (J.stop i H ∧ Q (.ref D0) H) ∨ (J.go i H ∧ ∃ Nx : Hp → Prop, (∀ H', Nx H' → ∃ m', m' < m ∧ ∃ ρ h acc vs, Grow N K ρ1 H1 ρ h H' ∧ (∀ n, ρ n ≠ some D0) ∧ H' D0 = some (.lst vs) ∧ Reps K ρ H' acc vs ∧ compN ft fe fi tg (wipeD σd own) m' (i + 1) acc h = .ok ds h2) ∧
      ∀ x H', J.yld i H x H' → tG N K tg x (L2.wipe σ own) H' fun σ2 H2 => L2.wipe σ2 own = L2.wipe σ own ∧ tT N K noW ft σ2 H2 fun b H3 => if b = true then tE N K noW fe σ2 H3 fun y H4 => ∃ acc, H4 D0 = some (.lst acc) ∧ acc.length < sizeLine ∧ Nx (upd H4 D0 (.lst (acc ++ [y]))) else Nx H3) := by
  obtain ⟨ρ, h, acc, vs, g, hn, e, r, hc⟩ := w
  cases m with
  | zero => cases hc
  | succ m =>
    unfold compN at hc
    have j1 := j.mon g.mon
    cases hi : fi.item h i with
    | none => rw [hi] at hc; cases hc
    | some o =>
      cases o with
      | none =>
        rw [hi] at hc
        cases hc
        exact .inl ⟨src_stop g.rel j1 hi, q _ _ (Grow.own g h0 hn e r) (if_pos rfl)⟩
      | some d =>
        rw [hi] at hc
        dsimp only at hc
        obtain ⟨hg, hy⟩ := src_go g.rel j1 hi
        refine .inr ⟨hg, fun H' => ∃ m', m' < m + 1 ∧ ∃ ρ h acc vs, Grow N K ρ1 H1 ρ h H' ∧ (∀ n, ρ n ≠ some D0) ∧ H' D0 = some (.lst vs) ∧ Reps K ρ H' acc vs ∧ compN ft fe fi tg (wipeD σd own) m' (i + 1) acc h = .ok ds h2, fun H' z => z, fun x H' hyl => ?_⟩
        obtain ⟨g2, rd⟩ := hy x H' hyl
        have e2 := (g2.away hn e)
        have en2 : EnvR K ρ H' (wipeD σd own) (L2.wipe σ own) := ((en.mon g.mon).mon g2.mon).wipe own
        refine ⟨ρ, h, wipeD σd own, d, g2.rel, en2, rd, ?_⟩
        cases ht : tgset h tg d (wipeD σd own) with
        | none => rw [ht] at hc; cases hc
        | some σ' =>
          rw [ht] at hc
          dsimp only at hc ⊢
          intro σ2 en3 hl hj
          refine ⟨wipe_eq hsub hl hj, ρ, h, σ', g2.rel, en3, ?_⟩
          cases hq : ft σ' h with
          | bad => rw [hq] at hc; cases hc
          | exc => rw [hq] at hc; cases hc
          | ok b h3 =>
            rw [hq] at hc
            intro ρ3 H3 g3
            have e3 := g3.away e2.1 e2.2
            cases b with
            | false =>
              rw [if_neg (by simp)]
              dsimp only at hc
              exact ⟨m, Nat.lt_succ_self m, ρ3, h3, acc, vs, (g.trans g2).trans g3, e3.1, e3.2, (r.mon g2.mon).mon g3.mon, hc⟩
            | true =>
              rw [if_pos rfl]
              dsimp only at hc
              refine ⟨ρ3, h3, σ', g3.rel, en3.mon g3.mon, ?_⟩
              cases hx : fe σ' h3 with
              | bad => rw [hx] at hc; cases hc
              | exc => rw [hx] at hc; cases hc
              | ok y h4 =>
                rw [hx] at hc
                intro ρ4 H4 v g4 r4
                dsimp only at hc
                by_cases hb : acc.length < big
                · rw [if_pos hb] at hc
                  have e4 := g4.away e3.1 e3.2
                  have r' := ((r.mon g2.mon).mon g3.mon).mon g4.mon
                  have gg := ((g.trans g2).trans g3).trans g4
                  refine ⟨vs, e4.2, by rw [← r.length]; exact Nat.lt_of_lt_of_le hb (big_line (Nat.le_refl _)), m, Nat.lt_succ_self m, ρ4, h4, acc ++ [y], vs ++ [v], Grow.touch gg h0 e4.1 e4.2, e4.1, upd_same, ?_, hc⟩
                  refine Reps.mon ?_ (r'.append (.cons r4 .nil))
                  exact ⟨fun _ _ z => z, touch_tp e4.2⟩
                · rw [if_neg hb] at hc
                  cases hc
end
end Z
end
section
set_option Elab.async false
set_option linter.all false
set_option maxRecDepth 100000
set_option maxHeartbeats 1000000
namespace Z
open PySem L2 PyProof.Rows
section
variable {T : Tb} {N : Nm} {G : Gm} {C : Cl} {k : Nat} {nm : List Str} {X : Cx} {sc : Scope} {W : WX}
def foldB : Expr → Bool
  | .Set _ _ _ => false
  | _ => true
theorem fold_of {e : Expr} {env : Env} (h : foldB e = true) : ∀ x, foldedSetIterable e env x = pure x := by
  cases e <;> first | (intro _; rfl) | (simp [foldB] at h)
theorem PTs.imp {ifs : List Expr} {t t' : TT} (h : ∀ σ H R, t' σ H R → t σ H R) (p : PTs X ifs t) : PTs X ifs t' := ⟨fun pins s σ H R I q => p.run pins s σ H R I (h σ H R q)⟩
theorem q_tno : PTs X [] (tT N X.K W fun _ h => .ok true h) := PTs.imp (fun σ H Q ⟨ρ, hh, σd, rel, en, q⟩ => q ρ H (.refl rel)) pts_nil
theorem q_tyes {e : Expr} {f : ST} (h : PT X e (tT N X.K W f)) : PTs X [e] (tT N X.K W f) := pts_one h
theorem lc_red {K : PySem.W.Frag} {fi : Ev → Hs → R Src} {tg : Tg} {own : List Nat} {ft : ST} {fe : SE} (hsub : ∀ j ∈ tg.slots, j ∈ own) (σ : L2.St) (H : Hp) (Q : VK) (z : tE N K W (sLc fi tg own ft fe) σ H Q) :
    tLc (tI N K W fi) (tG N K tg) (tT N K noW ft) (tE N K noW fe) own σ H Q := by
  obtain ⟨ρ, hh, σd, rel, en, q⟩ := z
  refine ⟨ρ, hh, σd, rel, en, ?_⟩
  unfold sLc at q
  cases hf : fi σd hh with
  | bad => rw [hf] at q; exact q
  | exc => rw [hf] at q; exact q
  | ok src h1 =>
    rw [hf, R.bind_ok] at q
    cases hc : compN ft fe src tg (wipeD σd own) loopFuel 0 [] h1 with
    | bad => rw [hc] at q; exact q.elim
    | exc cc fs h' =>
      exfalso
      clear q hf
      have : ∀ m i acc h, compN ft fe src tg (wipeD σd own) m i acc h ≠ .exc cc fs h' := by
        intro m
        induction m with
        | zero => intro i acc h e; cases e
        | succ m ih =>
          intro i acc h e
          unfold compN at e
          repeat' split at e
          all_goals first | (cases e; done) | exact ih _ _ _ e
      exact this _ _ _ _ hc
    | ok ds h2 =>
      rw [hc, R.bind_ok] at q
      intro ρ1 H1 J g j D0 hD0
      refine ⟨fun i m H => ∃ ρ h acc vs, Grow N K ρ1 H1 ρ h H ∧ (∀ n, ρ n ≠ some D0) ∧ H D0 = some (.lst vs) ∧ Reps K ρ H acc vs ∧ compN ft fe src tg (wipeD σd own) m i acc h = .ok ds h2, ?_, fun i m H w => ?_⟩
      · exact ⟨loopFuel, ρ1, h1, [], [], Grow.side g.rel hD0, g.rel.none_new hD0, upd_same, .nil, hc⟩
      · exact comp_turns hsub hD0 (en.mon g.mon) j (fun ρ' H' g2 e => q ρ' H' _ (g.trans g2) (.ref e)) i m H w
theorem q_lc (c : Cxt T N G C k nm X sc W) {elt tge iter : Expr} {ifs : List Expr} {scope : Scope} {pos : Pos} {fi : Ev → Hs → R Src} {tg : Tg} {own : List Nat} {ft : ST} {fe : SE} (hb : blkB nm sc scope own = true)
    (hsub : ∀ j ∈ tg.slots, j ∈ own) (hi : PI X tge iter (tI N X.K W fi)) (hg : chkTg nm scope tg tge = true)
    (ht : ∀ X', X'.K = X.K → Cxt T N G C k nm X' scope noW → PTs X' ifs (tT N X'.K noW ft)) (he : ∀ X', X'.K = X.K → Cxt T N G C k nm X' scope noW → PE X' elt (tE N X'.K noW fe)) (hs : foldB iter = true) :
    PE X (.ListComp elt [⟨tge, iter, ifs, 0⟩] scope pos) (tE N X.K W (sLc fi tg own ft fe)) := by
  obtain ⟨ok, ho⟩ := blk_of c hb
  refine PE.imp (fun σ H Q z => ?_) (pe_lc (g := tG N X.K tg) (tt := tT N X.K noW ft) (te := tE N X.K noW fe) c.calm c.nd hi ok (fun s H D cl fp => q_tg (c.blk s H scope D cl fp) hg) (fun s H D cl fp => ht (X.blk s H scope (compEnvC scope cl D X.env) fp) rfl (c.blk s H scope D cl fp)) (fun s H D cl fp => he (X.blk s H scope (compEnvC scope cl D X.env) fp) rfl (c.blk s H scope D cl fp)) (fold_of hs))
  rw [ho]
  exact lc_red hsub σ H Q z
/-- x = [..] on one line -/
theorem q_setLc (c : Cxt T N G C k nm X sc W) {i : Nat} {y : Str} {py spos : Pos} (hkind : X.env.scope.kind = .function) (hyl : X.env.scope.names.lookup y = some .local) (hi0 : nm[i]? = some y) {elt tge iter : Expr} {ifs : List Expr} {scope : Scope} {pos : Pos} {fi : Ev → Hs → R Src} {tg : Tg} {own : List Nat} {ft : ST} {fe : SE} (hb : blkB nm sc scope own = true)
    (hl : (py.line == pos.line) = true) (ha : (scope.names.any fun (n, k) => n == y && (k == .local || k == .cell)) = false)
    (hsub : ∀ j ∈ tg.slots, j ∈ own) (hi : PI X tge iter (tI N X.K W fi)) (hg : chkTg nm scope tg tge = true)
    (ht : ∀ X', X'.K = X.K → Cxt T N G C k nm X' scope noW → PTs X' ifs (tT N X'.K noW ft)) (he : ∀ X', X'.K = X.K → Cxt T N G C k nm X' scope noW → PE X' elt (tE N X'.K noW fe)) (hs : foldB iter = true) :
    PS X (.Assign [.Name y py] (.ListComp elt [⟨tge, iter, ifs, 0⟩] scope pos) spos) (fun D σ H => tE N X.K W (sLc fi tg own ft fe) σ H fun x H1 => D.nx (σ.set i (some x)) H1) := by
  obtain ⟨ok, ho⟩ := blk_of c hb
  refine PS.imp (fun D σ H z => ?_) (ps_setLc (i := i) (g := tG N X.K tg) (tt := tT N X.K noW ft) (te := tE N X.K noW fe) c.calm c.nd (by rw [c.nm]; exact hi0) hyl (sw_true hkind hyl hl ha) hi ok (fun s H D cl fp => q_tg (c.blk s H scope D cl fp) hg) (fun s H D cl fp => ht (X.blk s H scope (compEnvC scope cl D X.env) fp) rfl (c.blk s H scope D cl fp)) (fun s H D cl fp => he (X.blk s H scope (compEnvC scope cl D X.env) fp) rfl (c.blk s H scope D cl fp)) (fold_of hs))
  rw [ho]
  exact lc_red hsub σ H _ z
/-! ### f-strings -/
def tFmtE (te : TE) : TE := fun σ H Q => te σ H fun x H1 => (x = .non ∧ Q (.str "None") H1) ∨ (∃ y : Str, x = .str y ∧ y.length ≤ sizeLine ∧ Q (.str y) H1) ∨ ∃ i : Int, x = .int i ∧ i.natAbs.log2 < 1920 ∧ Q (.str (Str.ofString (toString i))) H1
theorem gives_none : Gives (Builtin.«NoneType.__repr__» ⟨[.none], []⟩) (.str "None") := .of_eq rfl
theorem pe_fmtE {e : Expr} {te : TE} {pos : Pos} (hu : X.A.units + 65 < cLine) (he : PE X e te) : PE X (.FormattedValue e (-1) none pos) (tFmtE te) := by
  refine ⟨fun pins s σ H Q I h => wpAny_FormattedValue_plain (thn (he.run pins s σ H _ I h) fun v s1 ⟨x, H1, I1, r1, f⟩ => ?_)⟩
  rcases f with ⟨rfl, q⟩ | ⟨y, rfl, hz, q⟩ | ⟨i, rfl, hz, q⟩
  · obtain rfl : v = Value.none := r1
    refine wpAny_formatField_slot (fun _ _ => nofun) (by omega) (typeIs_none _) F.slot_NoneType_format F.slot_NoneType_str F.slot_NoneType_repr.toG ?_
    exact call_gives F.slot_NoneType_repr (typeIs_none _) F.entry_NoneType_repr (F.args_NoneType_repr_1 _) gives_none ⟨by decide +kernel, _, _, rfl, .str "None", H1, (I1.tok _).tok _, ⟨_, rfl⟩, q⟩
  · obtain ⟨t, rfl⟩ := r1
    exact wpAny_formatField_str ⟨.str y, H1, I1, ⟨t, rfl⟩, q⟩ ⟨.str y, H1, I1.tok _, ⟨_, rfl⟩, q⟩ hz
  · obtain ⟨t, rfl⟩ := r1
    exact wpAny_formatField_int hz ⟨.str (Str.ofString (toString i)), H1, I1.tok _, ⟨_, rfl⟩, q⟩
theorem q_fmt (c : Cxt T N G C k nm X sc W) {e : Expr} {pos : Pos} {fa : SE} (ha : PE X e (tE N X.K W fa)) : PE X (.FormattedValue e (-1) none pos) (tE N X.K W (sFmt fa)) := by
  refine PE.imp (fun σ H Q ⟨ρ, hh, σd, rel, en, q⟩ => ⟨ρ, hh, σd, rel, en, ResE.bindE q fun d h1 _ ρ1 H1 v g r q1 => ?_⟩) (pe_fmtE c.hu ha)
  cases d <;> simp only [fmtTxt] at q1
  case non =>
    cases r
    exact .inl ⟨rfl, q1 ρ1 H1 _ (.refl g.rel) (.str _)⟩
  case int =>
    rename_i i _
    cases r
    by_cases hz : i.natAbs.log2 < 1920
    · rw [if_pos hz] at q1
      refine .inr (.inr ⟨i, rfl, hz, ?_⟩)
      rw [numText_str]
      exact q1 ρ1 H1 _ (.refl g.rel) (.str _)
    · rw [if_neg hz] at q1; exact q1.elim
  case str =>
    rename_i l _
    cases r
    by_cases hz : l.length ≤ big
    · rw [if_pos hz] at q1
      exact .inr (.inl ⟨_, rfl, by show l.toArray.size ≤ _; simpa using big_line hz, q1 ρ1 H1 _ (.refl g.rel) (.str _)⟩)
    · rw [if_neg hz] at q1; exact q1.elim
  all_goals exact q1.elim
end

/-! ## the check: an expression of the text against one of the small language -/
section
variable (T : Tb) (G : Gm) (nm : List Str)
/-- what has a truth of its own -/
def truB : E → Bool
  | .neg _ => false
  | .ife _ _ _ => false
  | .con (.bl _) => true
  | .con _ => false
  | .fstr _ => true
  | .and a b => truB a && truB b
  | .or a b => truB a && truB b
  | .not a => truB a
  | _ => true
def truO : Oe → Bool
  | .no => true
  | .yes e => truB e
def boolB : E → Bool
  | .and _ _ => true
  | .or _ _ => true
  | _ => false
mutual
def chkE (sc : Scope) : E → Expr → Bool
  | .var i => fun e => match e with
    | .Name x _ => decide (nm[i]? = some x) && visB sc x && nmB x
    | _ => false
  | .con d => fun e => match e with
    | .Constant c _ _ => conB d c
    | .UnaryOp .USub (.Constant (.int j) _ _) _ => match d with
      | .int i => decide (i = -j)
      | _ => false
    | _ => false
  | .glo g => fun e => match e with
    | .Name x _ => decide (T.gname g = some x) && glB sc x && nmB x
    | _ => false
  | .bin o a b => fun e => match e with
    | .BinOp ea p eb _ => bopB o p && chkE sc a ea && chkE sc b eb
    | _ => false
  | .neg a => fun e => match e with
    | .UnaryOp .USub ea _ => chkE sc a ea
    | _ => false
  | .cmp o a b => fun e => match e with
    | .Compare ea [p] [eb] _ => copB o p && !behindInMarks p eb && chkE sc a ea && chkE sc b eb
    | _ => false
  | .chn o o' a b c => fun e => match e with
    | .Compare ea [p, p'] [eb, ec] _ => copB o p && copB o' p' && !lastMarks [p, p'] [eb, ec] && chkE sc a ea && chkE sc b eb && chkE sc c ec
    | _ => false
  | .and a b => fun e => match e with
    | .BoolOp .And [ea, eb] _ => chkE sc a ea && chkE sc b eb
    | .BoolOp .And (ea :: e2 :: e3 :: es) pos => boolB b && chkE sc a ea && chkE sc b (.BoolOp .And (e2 :: e3 :: es) pos)
    | _ => false
  | .or a b => fun e => match e with
    | .BoolOp .Or [ea, eb] _ => chkE sc a ea && chkE sc b eb
    | .BoolOp .Or (ea :: e2 :: e3 :: es) pos => boolB b && chkE sc a ea && chkE sc b (.BoolOp .Or (e2 :: e3 :: es) pos)
    | _ => false
  | .not a => fun e => match e with
    | .UnaryOp .Not ea _ => chkE sc a ea
    | _ => false
  | .ife c a b => fun e => match e with
    | .IfExp ec ea eb _ => truB c && chkE sc c ec && chkE sc a ea && chkE sc b eb
    | _ => false
  | .tup es => fun e => match e with
    | .Tuple l _ _ => chkAs sc es l
    | _ => false
  | .lst es => fun e => match e with
    | .List l _ => chkAs sc es l
    | _ => false
  | .dnew => fun e => match e with
    | .Dict [] [] _ => true
    | _ => false
  | .slc a lo hi => fun e => match e with
    | .Subscript ea (.Slice el eh none _) _ => chkE sc a ea && chkO sc lo el && chkO sc hi eh
    | _ => false
  | .idx a b => fun e => match e with
    | .Subscript ea eb _ => plainE eb && chkE sc a ea && chkE sc b eb
    | _ => false
  | .fld a f => fun e => match e with
    | .Attribute ea x _ => decide (T.fld f = x) && base0 ea && chkE sc a ea
    | _ => false
  | .call f es => fun e => match e with
    | .Call (.Name x _) l [] _ => decide (T.fname f = some x) && glB sc x && nmB x && l.all noStar && chkAs sc es l
    | _ => false
  | .pcall f es => fun e => match e with
    | .Call (.Name x _) l [] _ => decide (T.fname f = some x) && glB sc x && nmB x && l.all noStar && chkAs sc es l
    | _ => false
  | .make c es => fun e => match e with
    | .Call (.Name x _) l [] _ => decide (T.cname c = some x) && (G.init c).isSome && glB sc x && nmB x && l.all noStar && chkAs sc es l
    | _ => false
  | .blt b es => fun e => match e with
    | .Call (.Name x _) l [] _ => decide (b.name = x) && glB sc x && nmB x && l.all noStar && !l.isEmpty && chkAs sc es l
    | _ => false
  | .meth o m es => fun e => match e with
    | .Call (.Attribute eo x apos) l [] pos => decide (T.mname m = x) && base0 eo && l.all noStar && decide (l.length < 30) && (apos.endLine == pos.line) && chkE sc o eo && chkAs sc es l
    | _ => false
  | .bm b o es => fun e => match e with
    | .Call (.Attribute eo x apos) l [] pos => b.isL && decide (Str.ofString b.nm = x) && base0 eo && l.all noStar && decide (l.length < 30) && (apos.endLine == pos.line) && chkE sc o eo && chkAs sc es l
    | _ => false
  | .lc it tg own cond elt => fun e => match e with
    | .ListComp eelt [⟨tge, iter, ifs, 0⟩] scope _ => blkB nm sc scope own && tg.slots.all (fun i => own.contains i) && chkTg nm scope tg tge && foldB iter && truO cond && chkI sc it tge iter && chkIfs scope cond ifs && chkE scope elt eelt
    | _ => false
  | .fmt a => fun e => match e with
    | .FormattedValue ex c none _ => decide (c = -1) && chkE sc a ex
    | _ => false
  | .fstr es => fun e => match e with
    | .JoinedStr l _ => !l.isEmpty && chkAs sc es l
    | _ => false
  | .any => fun _ => true
def chkAs (sc : Scope) : Es → List Expr → Bool
  | .nil, [] => true
  | .cons e r, x :: l => noStar x && chkE sc e x && chkAs sc r l
  | _, _ => false
def chkO (sc : Scope) : Oe → Option Expr → Bool
  | .no, none => true
  | .yes e, some x => chkE sc e x
  | _, _ => false
def chkIfs (sc : Scope) : Oe → List Expr → Bool
  | .no, [] => true
  | .yes e, [x] => chkE sc e x
  | _, _ => false
def chkI (sc : Scope) : It → Expr → Expr → Bool
  | .seq e, _, x => chkE sc e x
  | .rng1 e, _, .Call (.Name x _) [ea] [] _ => decide (x = "range") && glB sc x && noStar ea && chkE sc e ea
  | .rng2 a b, _, .Call (.Name x _) [ea, eb] [] _ => decide (x = "range") && glB sc x && noStar ea && noStar eb && chkE sc a ea && chkE sc b eb
  | .enm e, .Tuple _ _ _, .Call (.Name x _) [ea] [] _ => decide (x = "enumerate") && glB sc x && noStar ea && chkE sc e ea
  | _, _, _ => false
end
end
end Z
end
section
set_option Elab.async false
set_option linter.all false
set_option maxRecDepth 100000
set_option maxHeartbeats 4000000
namespace Z
open PySem L2 PyProof.Rows
section
variable {T : Tb} {N : Nm} {G : Gm} {C : Cl} {k : Nat} {nm : List Str}
structure OkE (N : Nm) (G : Gm) (C : Cl) (X : Cx) (W : WX) (a : E) (e : Expr) : Prop where
  pe : PE X e (tE N X.K W (evE G C a).1)
  pt : truB a = true → PT X e (tT N X.K W (evE G C a).2)
  pw : boolB a = true → truB a = true → PW X e (tT N X.K W (evE G C a).2)
theorem OkE.val {X : Cx} {W : WX} {a : E} {e : Expr} {f : SE} (h1 : evE G C a = (f, valT f)) (h2 : plainT e = true) (h3 : boolB a = false) (h : PE X e (tE N X.K W f)) : OkE N G C X W a e := by
  refine ⟨by rw [h1]; exact h, fun _ => by rw [h1]; exact q_val h h2, fun z => by rw [h3] at z; cases z⟩
theorem nil_of {sc : Scope} {es : Es} {l : List Expr} (h : chkAs T G nm sc es l = true) : l = [] → evAs G C es = fun _ h => .ok [] h := by
  intro e
  subst e
  cases es with
  | nil => rfl
  | cons => simp [chkAs] at h
theorem con_neg {X : Cx} {W : WX} {i j : Int} {q : Nat} {p pos : Pos} (h : i = -j) : PE X (.UnaryOp .USub (.Constant (.int j) q p) pos) (tE N X.K W fun _ h => .ok (.int i) h) := by
  subst h
  exact PE.imp (fun σ H Q ⟨ρ, hh, σd, rel, en, z⟩ => ⟨ρ, hh, σd, rel, en, z⟩) (q_neg (q_con (d := .int j) (by simp [conB])))
mutual
theorem sndE : ∀ (a : E) {X : Cx} {sc : Scope} {W : WX} (c : Cxt T N G C k nm X sc W) {e : Expr}, chkE T G nm sc a e = true → OkE N G C X W a e
  | .var i, X, sc, W, c, e, h => by
    cases e <;> simp only [chkE, Bool.false_eq_true, Bool.and_eq_true, decide_eq_true_eq] at h
    exact OkE.val (f := sVar i) (by simp only [evE]) rfl rfl (q_var c h.1.1 h.1.2 h.2)
  | .con d, X, sc, W, c, e, h => by
    have key : (∃ cc j pos, e = .Constant cc j pos ∧ conB d cc = true) ∨ (∃ i j q p pos, d = .int i ∧ e = .UnaryOp .USub (.Constant (.int j) q p) pos ∧ i = -j) := by
      unfold chkE at h
      split at h
      · exact .inl ⟨_, _, _, rfl, h⟩
      · cases d <;> simp only [Bool.false_eq_true, decide_eq_true_eq] at h
        exact .inr ⟨_, _, _, _, _, rfl, rfl, h⟩
      · cases h
    rcases key with ⟨cc, j, pos, rfl, h1⟩ | ⟨i, j, q, p, pos, rfl, rfl, h1⟩
    · exact OkE.val (f := fun _ h => .ok d h) (by simp only [evE]) rfl rfl (q_con h1)
    · exact ⟨by simp only [evE]; exact con_neg h1, fun z => by simp [truB] at z, fun z => by simp [boolB] at z⟩
  | .glo g, X, sc, W, c, e, h => by
    cases e <;> simp only [chkE, Bool.false_eq_true, Bool.and_eq_true, decide_eq_true_eq] at h
    exact OkE.val (f := fun _ h => .ok (G.glob g) h) (by simp only [evE]) rfl rfl (q_glo c h.1.1 h.1.2 h.2)
  | .bin o a b, X, sc, W, c, e, h => by
    cases e <;> simp only [chkE, Bool.false_eq_true, Bool.and_eq_true, decide_eq_true_eq] at h
    exact OkE.val (f := sBin o (evE G C a).1 (evE G C b).1) (by simp only [evE]) rfl rfl (q_bin h.1.1 (sndE a c h.1.2).pe (sndE b c h.2).pe)
  | .neg a, X, sc, W, c, e, h => by
    have key : ∃ ea pos, e = .UnaryOp .USub ea pos ∧ chkE T G nm sc a ea = true := by
      unfold chkE at h
      split at h
      · exact ⟨_, _, rfl, h⟩
      · cases h
    obtain ⟨ea, pos, rfl, h1⟩ := key
    exact ⟨by simp only [evE]; exact q_neg (sndE a c h1).pe, fun z => by simp [truB] at z, fun z => by simp [boolB] at z⟩
  | .cmp o a b, X, sc, W, c, e, h => by
    have key : ∃ ea p eb pos, e = .Compare ea [p] [eb] pos ∧ (((copB o p = true ∧ behindInMarks p eb = false) ∧ chkE T G nm sc a ea = true) ∧ chkE T G nm sc b eb = true) := by
      unfold chkE at h
      split at h <;> simp only [Bool.and_eq_true, Bool.false_eq_true, Bool.not_eq_true', decide_eq_true_eq] at h
      exact ⟨_, _, _, _, rfl, h⟩
    obtain ⟨ea, p, eb, pos, rfl, ⟨⟨h1, h2⟩, h3⟩, h4⟩ := key
    have z := q_cmp (pos := pos) c h1 h2 (sndE a c h3).pe (sndE b c h4).pe
    exact ⟨by simp only [evE]; exact z.1, fun _ => by simp only [evE]; exact z.2, fun z => by simp [boolB] at z⟩
  | .chn o o' a b d, X, sc, W, c, e, h => by
    have key : ∃ ea p p' eb ec pos, e = .Compare ea [p, p'] [eb, ec] pos ∧ (((((copB o p = true ∧ copB o' p' = true) ∧ lastMarks [p, p'] [eb, ec] = false) ∧ chkE T G nm sc a ea = true) ∧ chkE T G nm sc b eb = true) ∧ chkE T G nm sc d ec = true) := by
      unfold chkE at h
      split at h <;> simp only [Bool.and_eq_true, Bool.false_eq_true, Bool.not_eq_true', decide_eq_true_eq] at h
      exact ⟨_, _, _, _, _, _, rfl, h⟩
    obtain ⟨ea, p, p', eb, ec, pos, rfl, ⟨⟨⟨⟨h1, h2⟩, h3⟩, h4⟩, h5⟩, h6⟩ := key
    have z := q_chn (pos := pos) c h1 h2 h3 (sndE a c h4).pe (sndE b c h5).pe (sndE d c h6).pe
    exact ⟨by simp only [evE]; exact z.1, fun _ => by simp only [evE]; exact z.2, fun z => by simp [boolB] at z⟩
  | .and a b, X, sc, W, c, e, h => by
    have key : (∃ ea eb pos, e = .BoolOp .And [ea, eb] pos ∧ chkE T G nm sc a ea = true ∧ chkE T G nm sc b eb = true) ∨ (∃ ea e2 e3 es pos, e = .BoolOp .And (ea :: e2 :: e3 :: es) pos ∧ boolB b = true ∧ chkE T G nm sc a ea = true ∧ chkE T G nm sc b (.BoolOp .And (e2 :: e3 :: es) pos) = true) := by
      unfold chkE at h
      split at h <;> simp only [Bool.and_eq_true, Bool.false_eq_true] at h
      · exact .inl ⟨_, _, _, rfl, h⟩
      · exact .inr ⟨_, _, _, _, _, rfl, h.1.1, h.1.2, h.2⟩
    rcases key with ⟨ea, eb, pos, rfl, h1, h2⟩ | ⟨ea, e2, e3, es, pos, rfl, hb, h1, h2⟩
    · have A := sndE a c h1
      have B := sndE b c h2
      have w : truB (.and a b) = true → PW X (.BoolOp .And [ea, eb] pos) (tT N X.K W (evE G C (.and a b)).2) := fun z => by
        simp only [truB, Bool.and_eq_true] at z
        simp only [evE]
        exact q_andT (A.pt z.1) (pw_and1 (B.pt z.2))
      exact ⟨by simp only [evE]; exact q_and A.pe (pe_one B.pe), fun z => (w z).pt, fun _ z => w z⟩
    · have A := sndE a c h1
      have B := sndE b c h2
      have w : truB (.and a b) = true → PW X (.BoolOp .And (ea :: e2 :: e3 :: es) pos) (tT N X.K W (evE G C (.and a b)).2) := fun z => by
        simp only [truB, Bool.and_eq_true] at z
        simp only [evE]
        exact q_andT (A.pt z.1) (B.pw hb z.2)
      exact ⟨by simp only [evE]; exact q_and A.pe B.pe, fun z => (w z).pt, fun _ z => w z⟩
  | .or a b, X, sc, W, c, e, h => by
    have key : (∃ ea eb pos, e = .BoolOp .Or [ea, eb] pos ∧ chkE T G nm sc a ea = true ∧ chkE T G nm sc b eb = true) ∨ (∃ ea e2 e3 es pos, e = .BoolOp .Or (ea :: e2 :: e3 :: es) pos ∧ boolB b = true ∧ chkE T G nm sc a ea = true ∧ chkE T G nm sc b (.BoolOp .Or (e2 :: e3 :: es) pos) = true) := by
      unfold chkE at h
      split at h <;> simp only [Bool.and_eq_true, Bool.false_eq_true] at h
      · exact .inl ⟨_, _, _, rfl, h⟩
      · exact .inr ⟨_, _, _, _, _, rfl, h.1.1, h.1.2, h.2⟩
    rcases key with ⟨ea, eb, pos, rfl, h1, h2⟩ | ⟨ea, e2, e3, es, pos, rfl, hb, h1, h2⟩
    · have A := sndE a c h1
      have B := sndE b c h2
      have w : truB (.or a b) = true → PW X (.BoolOp .Or [ea, eb] pos) (tT N X.K W (evE G C (.or a b)).2) := fun z => by
        simp only [truB, Bool.and_eq_true] at z
        simp only [evE]
        exact q_orT (A.pt z.1) (pw_or1 (B.pt z.2))
      exact ⟨by simp only [evE]; exact q_or A.pe (pe_one B.pe), fun z => (w z).pt, fun _ z => w z⟩
    · have A := sndE a c h1
      have B := sndE b c h2
      have w : truB (.or a b) = true → PW X (.BoolOp .Or (ea :: e2 :: e3 :: es) pos) (tT N X.K W (evE G C (.or a b)).2) := fun z => by
        simp only [truB, Bool.and_eq_true] at z
        simp only [evE]
        exact q_orT (A.pt z.1) (B.pw hb z.2)
      exact ⟨by simp only [evE]; exact q_or A.pe B.pe, fun z => (w z).pt, fun _ z => w z⟩
  | .not a, X, sc, W, c, e, h => by
    have key : ∃ ea pos, e = .UnaryOp .Not ea pos ∧ chkE T G nm sc a ea = true := by
      unfold chkE at h
      split at h
      · exact ⟨_, _, rfl, h⟩
      · cases h
    obtain ⟨ea, pos, rfl, h1⟩ := key
    have A := sndE a c h1
    exact ⟨by simp only [evE]; exact q_not A.pe, fun z => by simp only [evE]; exact q_notT (A.pt (by simpa [truB] using z)), fun z => by simp [boolB] at z⟩
  | .ife a b d, X, sc, W, c, e, h => by
    cases e <;> simp only [chkE, Bool.false_eq_true, Bool.and_eq_true, decide_eq_true_eq] at h
    exact ⟨by simp only [evE]; exact q_ife ((sndE a c h.1.1.2).pt h.1.1.1) (sndE b c h.1.2).pe (sndE d c h.2).pe, fun z => by simp [truB] at z, fun z => by simp [boolB] at z⟩
  | .tup es, X, sc, W, c, e, h => by
    cases e <;> simp only [chkE, Bool.false_eq_true, Bool.and_eq_true, decide_eq_true_eq] at h
    exact OkE.val (f := sTup (evAs G C es)) (by simp only [evE]) rfl rfl (q_tup (sndAs es c h))
  | .lst es, X, sc, W, c, e, h => by
    cases e <;> simp only [chkE, Bool.false_eq_true, Bool.and_eq_true, decide_eq_true_eq] at h
    exact OkE.val (f := sLst (evAs G C es)) (by simp only [evE]) rfl rfl (q_lst (sndAs es c h))
  | .dnew, X, sc, W, c, e, h => by
    have key : ∃ pos, e = .Dict [] [] pos := by
      unfold chkE at h
      split at h
      · exact ⟨_, rfl⟩
      · cases h
    obtain ⟨pos, rfl⟩ := key
    exact OkE.val (f := fun _ h => .ok (.ref h.n) (h.new (.dic []))) (by simp only [evE]) rfl rfl q_dnew
  | .slc a lo hi, X, sc, W, c, e, h => by
    have key : ∃ ea el eh p2 pos, e = .Subscript ea (.Slice el eh none p2) pos ∧ ((chkE T G nm sc a ea = true ∧ chkO T G nm sc lo el = true) ∧ chkO T G nm sc hi eh = true) := by
      unfold chkE at h
      split at h <;> simp only [Bool.and_eq_true, Bool.false_eq_true, Bool.not_eq_true', decide_eq_true_eq] at h
      exact ⟨_, _, _, _, _, rfl, h⟩
    obtain ⟨ea, el, eh, p2, pos, rfl, ⟨h1, h2⟩, h3⟩ := key
    exact OkE.val (f := sSlc (evE G C a).1 (evO G C lo).1 (evO G C hi).1) (by simp only [evE]) rfl rfl (q_slc (sndE a c h1).pe (sndO lo c h2) (sndO hi c h3))
  | .idx a b, X, sc, W, c, e, h => by
    cases e <;> simp only [chkE, Bool.false_eq_true, Bool.and_eq_true, decide_eq_true_eq] at h
    exact OkE.val (f := sIdx (evE G C a).1 (evE G C b).1) (by simp only [evE]) rfl rfl (q_idx c h.1.1 (sndE a c h.1.2).pe (sndE b c h.2).pe)
  | .fld a x, X, sc, W, c, e, h => by
    cases e <;> simp only [chkE, Bool.false_eq_true, Bool.and_eq_true, decide_eq_true_eq] at h
    exact OkE.val (f := sFld G (evE G C a).1 x) (by simp only [evE]) rfl rfl (q_fld c h.1.1 h.1.2 (sndE a c h.2).pe)
  | .call f es, X, sc, W, c, e, h => by
    have key : ∃ x p l pos, e = .Call (.Name x p) l [] pos ∧ ((((T.fname f = some x ∧ glB sc x = true) ∧ nmB x = true) ∧ l.all noStar = true) ∧ chkAs T G nm sc es l = true) := by
      unfold chkE at h
      split at h <;> simp only [Bool.and_eq_true, Bool.false_eq_true, Bool.not_eq_true', decide_eq_true_eq] at h
      exact ⟨_, _, _, _, rfl, h⟩
    obtain ⟨x, p, l, pos, rfl, ⟨⟨⟨h1, h2⟩, h3⟩, h4⟩, h5⟩ := key
    exact OkE.val (f := sCall G C f (evAs G C es)) (by simp only [evE]) rfl rfl (q_call c h1 h2 h3 h4 (sndAs es c h5) (nil_of h5))
  | .pcall f es, X, sc, W, c, e, h => by
    have key : ∃ x p l pos, e = .Call (.Name x p) l [] pos ∧ ((((T.fname f = some x ∧ glB sc x = true) ∧ nmB x = true) ∧ l.all noStar = true) ∧ chkAs T G nm sc es l = true) := by
      unfold chkE at h
      split at h <;> simp only [Bool.and_eq_true, Bool.false_eq_true, Bool.not_eq_true', decide_eq_true_eq] at h
      exact ⟨_, _, _, _, rfl, h⟩
    obtain ⟨x, p, l, pos, rfl, ⟨⟨⟨h1, h2⟩, h3⟩, h4⟩, h5⟩ := key
    exact OkE.val (f := sPure G C f (evAs G C es)) (by simp only [evE]) rfl rfl (q_pcall c h1 h2 h3 h4 (sndAs es c h5) (nil_of h5))
  | .make f es, X, sc, W, c, e, h => by
    have key : ∃ x p l pos, e = .Call (.Name x p) l [] pos ∧ (((((T.cname f = some x ∧ (G.init f).isSome = true) ∧ glB sc x = true) ∧ nmB x = true) ∧ l.all noStar = true) ∧ chkAs T G nm sc es l = true) := by
      unfold chkE at h
      split at h <;> simp only [Bool.and_eq_true, Bool.false_eq_true, Bool.not_eq_true', decide_eq_true_eq] at h
      exact ⟨_, _, _, _, rfl, h⟩
    obtain ⟨x, p, l, pos, rfl, ⟨⟨⟨⟨h1, h0⟩, h2⟩, h3⟩, h4⟩, h5⟩ := key
    exact OkE.val (f := sMake G C f (evAs G C es)) (by simp only [evE]) rfl rfl (q_make c h1 h2 h3 h4 (sndAs es c h5) (nil_of h5) h0)
  | .blt b es, X, sc, W, c, e, h => by
    have key : ∃ x p l pos, e = .Call (.Name x p) l [] pos ∧ (((((b.name = x ∧ glB sc x = true) ∧ nmB x = true) ∧ l.all noStar = true) ∧ l.isEmpty = false) ∧ chkAs T G nm sc es l = true) := by
      unfold chkE at h
      split at h <;> simp only [Bool.and_eq_true, Bool.false_eq_true, Bool.not_eq_true', decide_eq_true_eq] at h
      exact ⟨_, _, _, _, rfl, h⟩
    obtain ⟨x, p, l, pos, rfl, ⟨⟨⟨⟨h1, h2⟩, h3⟩, h4⟩, h5⟩, h6⟩ := key
    exact OkE.val (f := sBlt b (evAs G C es)) (by simp only [evE]) rfl rfl (q_blt c h1 h2 h3 h4 (fun z => by rw [z] at h5; cases h5) (sndAs es c h6))
  | .meth o m es, X, sc, W, c, e, h => by
    have key : ∃ eo x apos l pos, e = .Call (.Attribute eo x apos) l [] pos ∧ ((((((T.mname m = x ∧ base0 eo = true) ∧ l.all noStar = true) ∧ l.length < 30) ∧ (apos.endLine == pos.line) = true) ∧ chkE T G nm sc o eo = true) ∧ chkAs T G nm sc es l = true) := by
      unfold chkE at h
      split at h <;> simp only [Bool.and_eq_true, Bool.false_eq_true, Bool.not_eq_true', decide_eq_true_eq] at h
      exact ⟨_, _, _, _, _, rfl, h⟩
    obtain ⟨eo, x, apos, l, pos, rfl, ⟨⟨⟨⟨⟨h1, h2⟩, h3⟩, h4⟩, h5⟩, h6⟩, h7⟩ := key
    exact OkE.val (f := sMeth G C (evE G C o).1 m (evAs G C es)) (by simp only [evE]) rfl rfl (q_meth c h1 h2 h3 h4 h5 (sndE o c h6).pe (sndAs es c h7) (nil_of h7))
  | .bm b o es, X, sc, W, c, e, h => by
    have key : ∃ eo x apos l pos, e = .Call (.Attribute eo x apos) l [] pos ∧ (((((((b.isL = true ∧ Str.ofString b.nm = x) ∧ base0 eo = true) ∧ l.all noStar = true) ∧ l.length < 30) ∧ (apos.endLine == pos.line) = true) ∧ chkE T G nm sc o eo = true) ∧ chkAs T G nm sc es l = true) := by
      unfold chkE at h
      split at h <;> simp only [Bool.and_eq_true, Bool.false_eq_true, Bool.not_eq_true', decide_eq_true_eq] at h
      exact ⟨_, _, _, _, _, rfl, h⟩
    obtain ⟨eo, x, apos, l, pos, rfl, ⟨⟨⟨⟨⟨⟨h0, h1⟩, h2⟩, h3⟩, h4⟩, h5⟩, h6⟩, h7⟩ := key
    exact OkE.val (f := sBm b (evE G C o).1 (evAs G C es)) (by simp only [evE]) rfl rfl (q_bm c h0 h1 h2 h3 h4 h5 (sndE o c h6).pe (sndAs es c h7) (nil_of h7))
  | .lc it tg own cond elt, X, sc, W, c, e, h => by
    have key : ∃ eelt tge iter ifs scope pos, e = .ListComp eelt [⟨tge, iter, ifs, 0⟩] scope pos ∧ (((((((blkB nm sc scope own = true ∧ (tg.slots.all fun i => own.contains i) = true) ∧ chkTg nm scope tg tge = true) ∧ foldB iter = true) ∧ truO cond = true) ∧ chkI T G nm sc it tge iter = true) ∧ chkIfs T G nm scope cond ifs = true) ∧ chkE T G nm scope elt eelt = true) := by
      unfold chkE at h
      split at h <;> simp only [Bool.and_eq_true, Bool.false_eq_true, Bool.not_eq_true', decide_eq_true_eq] at h
      exact ⟨_, _, _, _, _, _, rfl, h⟩
    obtain ⟨eelt, tge, iter, ifs, scope, pos, rfl, ⟨⟨⟨⟨⟨⟨h1, h2⟩, h3⟩, h4⟩, h5⟩, h6⟩, h7⟩, h8⟩ := key
    refine OkE.val (f := sLc (evI G C it) tg own (evO G C cond).2 (evE G C elt).1) (by simp only [evE]) rfl rfl (q_lc c h1 (fun j hj => ?_) (sndI it c h6) h3 (fun X' e' c' => sndIf cond c' h5 h7) (fun X' e' c' => (sndE elt c' h8).pe) h4)
    have := List.all_eq_true.mp h2 j hj
    simpa using this
  | .fmt a, X, sc, W, c, e, h => by
    have key : ∃ ex p, e = .FormattedValue ex (-1) none p ∧ chkE T G nm sc a ex = true := by
      unfold chkE at h
      split at h <;> simp only [Bool.and_eq_true, Bool.false_eq_true, decide_eq_true_eq] at h
      obtain ⟨rfl, h1⟩ := h
      exact ⟨_, _, rfl, h1⟩
    obtain ⟨ex, p, rfl, h1⟩ := key
    exact OkE.val (f := sFmt (evE G C a).1) (by simp only [evE]) rfl rfl (q_fmt c (sndE a c h1).pe)
  | .fstr es, X, sc, W, c, e, h => by
    cases e <;> simp only [chkE, Bool.false_eq_true, Bool.and_eq_true, decide_eq_true_eq, Bool.not_eq_true'] at h
    rename_i l pos
    obtain ⟨ts, j, hl, q⟩ := sndJ es c h.2
    refine OkE.val (f := evJ G C es []) (by simp only [evE]) rfl rfl ?_
    match l, ts, j, h, hl, q with
    | [], _, _, h, _, _ => simp at h
    | [e1], [t1], .cons j1 .nil, h, _, q =>
      refine ⟨fun pins s σ H Q I z => thn ((pe_joined1 j1).run pins s σ H _ I (q [] σ H Q z)) fun u s1 ⟨x, H1, I1, r, y, hx, _, qq⟩ => ⟨x, H1, I1, r, ?_⟩⟩
      subst hx
      have e0 : (⟨([] : List Nat).toArray⟩ : Str) ++ y = y := by
        obtain ⟨⟨y⟩⟩ := y
        rw [str_app]
        rfl
      rw [← e0]
      exact qq
    | e1 :: e2 :: r, _, j, h, _, q => exact PE.imp (fun σ H Q z => q [] σ H Q z) (pe_joined j)
  | .any, X, sc, W, c, e, h => ⟨⟨fun pins s σ H Q I ⟨_, _, _, _, _, q⟩ => q.elim⟩, fun _ => ⟨fun pins s σ H Q I ⟨_, _, _, _, _, q⟩ => q.elim⟩, fun z => by simp [boolB] at z⟩
theorem sndJ : ∀ (a : Es) {X : Cx} {sc : Scope} {W : WX} (c : Cxt T N G C k nm X sc W) {l : List Expr}, chkAs T G nm sc a l = true → ∃ ts, PJ X l ts ∧ ts.length = l.length ∧
    ∀ (acc : List Nat) σ H (Q : VK), tE N X.K W (evJ G C a acc) σ H Q → tJs ts ⟨acc.toArray⟩ σ H fun out H1 => Q (.str out) H1
  | .nil, X, sc, W, c, l, h => by
    cases l <;> simp only [chkAs, Bool.false_eq_true] at h
    exact ⟨[], .nil, rfl, fun acc σ H Q ⟨ρ, hh, σd, rel, en, q⟩ => q ρ H _ (.refl rel) (.str _)⟩
  | .cons e r, X, sc, W, c, l, h => by
    cases l <;> simp only [chkAs, Bool.false_eq_true, Bool.and_eq_true] at h
    obtain ⟨ts, j, hl, k⟩ := sndJ r c h.2
    refine ⟨_ :: ts, .cons (sndE e c h.1.2).pe j, by simp [hl], fun acc σ H Q ⟨ρ, hh, σd, rel, en, q⟩ => ⟨ρ, hh, σd, rel, en, ResE.bindE q fun d h1 _ ρ1 H1 v g rv q1 => ?_⟩⟩
    cases d <;> try exact q1.elim
    rename_i b _
    cases rv
    dsimp only at q1
    by_cases hz : acc.length + b.length ≤ big
    · rw [if_pos hz] at q1
      have ap : (⟨acc.toArray⟩ : Str) ++ ⟨b.toArray⟩ = ⟨(acc ++ b).toArray⟩ := by
        show Str.append _ _ = _
        unfold Str.append
        simp
      refine ⟨⟨b.toArray⟩, rfl, ?_, ?_⟩
      · rw [ap]
        show (acc ++ b).toArray.size ≤ _
        simpa using big_line hz
      · rw [ap]
        exact k (acc ++ b) σ H1 Q ⟨ρ1, h1, σd, g.rel, en.mon g.mon, q1⟩
    · rw [if_neg hz] at q1; exact q1.elim
theorem sndAs : ∀ (a : Es) {X : Cx} {sc : Scope} {W : WX} (c : Cxt T N G C k nm X sc W) {l : List Expr}, chkAs T G nm sc a l = true → PA X l (tA N X.K W (evAs G C a))
  | .nil, X, sc, W, c, l, h => by
    cases l <;> simp only [chkAs, Bool.false_eq_true] at h
    exact q_nil
  | .cons e r, X, sc, W, c, l, h => by
    cases l <;> simp only [chkAs, Bool.false_eq_true, Bool.and_eq_true] at h
    exact q_cons h.1.1 (sndE e c h.1.2).pe (sndAs r c h.2)
theorem sndO : ∀ (a : Oe) {X : Cx} {sc : Scope} {W : WX} (c : Cxt T N G C k nm X sc W) {l : Option Expr}, chkO T G nm sc a l = true → PO X l (tOI N X.K W (evO G C a).1)
  | .no, X, sc, W, c, l, h => by
    cases l <;> simp only [chkO, Bool.false_eq_true] at h
    exact q_ono
  | .yes e, X, sc, W, c, l, h => by
    cases l <;> simp only [chkO, Bool.false_eq_true] at h
    exact q_oyes (sndE e c h).pe
theorem sndIf : ∀ (a : Oe) {X : Cx} {sc : Scope} {W : WX} (c : Cxt T N G C k nm X sc W) {l : List Expr}, truO a = true → chkIfs T G nm sc a l = true → PTs X l (tT N X.K W (evO G C a).2)
  | .no, X, sc, W, c, l, t, h => by
    cases l <;> simp only [chkIfs, Bool.false_eq_true] at h
    exact q_tno
  | .yes e, X, sc, W, c, l, t, h => by
    have key : ∃ x, l = [x] ∧ chkE T G nm sc e x = true := by
      unfold chkIfs at h
      split at h <;> simp only [reduceCtorEq, Oe.yes.injEq, Bool.false_eq_true] at *
      subst_vars; exact ⟨_, rfl, h⟩
    obtain ⟨x, rfl, h1⟩ := key
    exact q_tyes ((sndE e c h1).pt t)
theorem sndI : ∀ (a : It) {X : Cx} {sc : Scope} {W : WX} (c : Cxt T N G C k nm X sc W) {tge e : Expr}, chkI T G nm sc a tge e = true → PI X tge e (tI N X.K W (evI G C a))
  | .seq a, X, sc, W, c, tge, e, h => by
    simp only [chkI] at h
    exact q_seq (sndE a c h).pe
  | .rng1 a, X, sc, W, c, tge, e, h => by
    have key : ∃ p ea pos, e = .Call (.Name "range" p) [ea] [] pos ∧ ((glB sc "range" = true ∧ noStar ea = true) ∧ chkE T G nm sc a ea = true) := by
      unfold chkI at h
      split at h <;> simp only [reduceCtorEq, It.rng1.injEq, Bool.and_eq_true, Bool.false_eq_true, decide_eq_true_eq] at *
      subst_vars
      obtain ⟨⟨⟨rfl, h1⟩, h2⟩, h3⟩ := h
      exact ⟨_, _, _, rfl, ⟨h1, h2⟩, h3⟩
    obtain ⟨p, ea, pos, rfl, ⟨h1, h2⟩, h3⟩ := key
    exact q_rng1 c h1 h2 (sndE a c h3).pe
  | .rng2 a b, X, sc, W, c, tge, e, h => by
    have key : ∃ p ea eb pos, e = .Call (.Name "range" p) [ea, eb] [] pos ∧ ((((glB sc "range" = true ∧ noStar ea = true) ∧ noStar eb = true) ∧ chkE T G nm sc a ea = true) ∧ chkE T G nm sc b eb = true) := by
      unfold chkI at h
      split at h <;> simp only [reduceCtorEq, It.rng2.injEq, Bool.and_eq_true, Bool.false_eq_true, decide_eq_true_eq] at *
      rename_i hh
      obtain ⟨rfl, rfl⟩ := hh
      obtain ⟨⟨⟨⟨⟨rfl, h1⟩, h2⟩, h3⟩, h4⟩, h5⟩ := h
      exact ⟨_, _, _, _, rfl, ⟨⟨⟨h1, h2⟩, h3⟩, h4⟩, h5⟩
    obtain ⟨p, ea, eb, pos, rfl, ⟨⟨⟨h1, h2⟩, h3⟩, h4⟩, h5⟩ := key
    exact q_rng2 c h1 h2 h3 (sndE a c h4).pe (sndE b c h5).pe
  | .enm a, X, sc, W, c, tge, e, h => by
    have key : ∃ elts kk tp p ea pos, tge = .Tuple elts kk tp ∧ e = .Call (.Name "enumerate" p) [ea] [] pos ∧ ((glB sc "enumerate" = true ∧ noStar ea = true) ∧ chkE T G nm sc a ea = true) := by
      unfold chkI at h
      split at h <;> simp only [reduceCtorEq, It.enm.injEq, Bool.and_eq_true, Bool.false_eq_true, decide_eq_true_eq] at *
      subst_vars
      obtain ⟨⟨⟨rfl, h1⟩, h2⟩, h3⟩ := h
      exact ⟨_, _, _, _, _, _, rfl, rfl, ⟨h1, h2⟩, h3⟩
    obtain ⟨elts, kk, tp, p, ea, pos, rfl, rfl, ⟨h1, h2⟩, h3⟩ := key
    exact q_enm c h1 h2 (sndE a c h3).pe
end
end
end Z
end
section
set_option Elab.async false
set_option linter.all false
set_option maxRecDepth 100000
set_option maxHeartbeats 1000000
namespace Z
open PySem L2 PyProof.Rows

/-! ## statements -/
section
variable (N : Nm) (K : PySem.W.Frag) (W : WX)
def ResS (ρ : Rho) (H : Hp) (D : Ends) : RS → Prop
  | .nx σd h' => ∀ ρ' H' σ', Grow N K ρ H ρ' h' H' → EnvR K ρ' H' σd σ' → D.nx σ' H'
  | .rt d h' => ∀ ρ' H' v, Grow N K ρ H ρ' h' H' → Rep K ρ' H' d v → D.rt v H'
  | .bk σd h' => ∀ ρ' H' σ', Grow N K ρ H ρ' h' H' → EnvR K ρ' H' σd σ' → D.bk σ' H'
  | .ct σd h' => ∀ ρ' H' σ', Grow N K ρ H ρ' h' H' → EnvR K ρ' H' σd σ' → D.ct σ' H'
  | .exc c fs σd h' => ∀ ρ' H' σ' dd fv, Grow N K ρ H ρ' h' H' → EnvR K ρ' H' σd σ' → H' dd = some (.xd fv) → FldR N K ρ' H' fs fv → W (.ref (N.cls c)) (some dd) σ' H'
  | .bad => False
def tS (f : SX) : TS := fun D σ H => ∃ ρ h σd, RelH N K ρ h H ∧ EnvR K ρ H σd σ ∧ ResS N K W ρ H D (f σd h)
end
section
variable {N : Nm} {K : PySem.W.Frag} {W : WX} {ρ : Rho} {h : Hs} {H : Hp} {σ : L2.St} {σd : Ev} {D : Ends}
theorem ResS.shift {ρ1 h1 H1 r} (g : Grow N K ρ H ρ1 h1 H1) (q : ResS N K W ρ H D r) : ResS N K W ρ1 H1 D r := by
  cases r with
  | nx => exact fun _ _ _ g2 e => q _ _ _ (g.trans g2) e
  | rt => exact fun _ _ _ g2 e => q _ _ _ (g.trans g2) e
  | bk => exact fun _ _ _ g2 e => q _ _ _ (g.trans g2) e
  | ct => exact fun _ _ _ g2 e => q _ _ _ (g.trans g2) e
  | exc => exact fun _ _ _ _ _ g2 e a b => q _ _ _ _ _ (g.trans g2) e a b
  | bad => exact q
theorem ResS.bindE {r : R Z.D} {f : Z.D → Hs → RS} {Q : VK} (q : ResS N K W ρ H D (r.thenS σd f)) (en : EnvR K ρ H σd σ)
    (k : ∀ d h1 ρ1 H1 v, Grow N K ρ H ρ1 h1 H1 → Rep K ρ1 H1 d v → ResS N K W ρ1 H1 D (f d h1) → Q v H1) : ResE N K W ρ H σ r Q := by
  cases r with
  | ok d h1 => exact fun ρ1 H1 v g rp => k d h1 ρ1 H1 v g rp (ResS.shift g q)
  | exc c fs h1 => exact fun ρ1 H1 dd fv g a b => q ρ1 H1 σ dd fv g (en.mon g.mon) a b
  | bad => exact q
theorem ResS.bindT {r : R Bool} {f : Bool → Hs → RS} {Q : Bool → Hp → Prop} (q : ResS N K W ρ H D (r.thenS σd f)) (en : EnvR K ρ H σd σ)
    (k : ∀ b h1 ρ1 H1, Grow N K ρ H ρ1 h1 H1 → ResS N K W ρ1 H1 D (f b h1) → Q b H1) : ResT N K W ρ H σ r Q := by
  cases r with
  | ok d h1 => exact fun ρ1 H1 g => k d h1 ρ1 H1 g (ResS.shift g q)
  | exc c fs h1 => exact fun ρ1 H1 dd fv g a b => q ρ1 H1 σ dd fv g (en.mon g.mon) a b
  | bad => exact q
theorem ResS.bindA {r : R (List Z.D)} {f : List Z.D → Hs → RS} {Q : List V → Hp → Prop} (q : ResS N K W ρ H D (r.thenS σd f)) (en : EnvR K ρ H σd σ)
    (k : ∀ ds h1 ρ1 H1 vs, Grow N K ρ H ρ1 h1 H1 → Reps K ρ1 H1 ds vs → ResS N K W ρ1 H1 D (f ds h1) → Q vs H1) : ResA N K W ρ H σ r Q := by
  cases r with
  | ok d h1 => exact fun ρ1 H1 v g rp => k d h1 ρ1 H1 v g rp (ResS.shift g q)
  | exc c fs h1 => exact fun ρ1 H1 dd fv g a b => q ρ1 H1 σ dd fv g (en.mon g.mon) a b
  | bad => exact q
/-- an operation's value -/
theorem ResS.bindV {r : R Z.D} {f : Z.D → Hs → RS} {Q : VK} (hq : quiet r) (q : ResS N K W ρ H D (r.thenS σd f))
    (k : ∀ d h1 ρ1 H1 v, Grow N K ρ H ρ1 h1 H1 → Rep K ρ1 H1 d v → ResS N K W ρ1 H1 D (f d h1) → Q v H1) : ResV N K ρ H r Q := by
  cases r with
  | ok d h1 => exact fun ρ1 H1 v g rp => k d h1 ρ1 H1 v g rp (ResS.shift g q)
  | exc c fs h1 => exact hq.elim
  | bad => exact q
end
structure CxS (T : Tb) (N : Nm) (G : Gm) (C : Cl) (k : Nat) (nm : List Str) (X : Cx) (sc : Scope) (W : WX) : Prop where
  c : Cxt T N G C k nm X sc W
  pass : PassesOwn (model X.prog X.w) X.A X.env X.xe
  lcl : ∀ x, sc.names.lookup x = some .local → X.env.scope.names.lookup x = some .local
  kind : X.env.scope.kind = .function
  stk : X.stack = X.env :: X.outer
  frm : X.env.frame = some X.env.locals
def noTup : Expr → Bool
  | .Tuple _ _ _ => false
  | _ => true
section
variable {T : Tb} {N : Nm} {G : Gm} {C : Cl} {k : Nat} {nm : List Str} {X : Cx} {sc : Scope} {W : WX}
variable {ea eb ec : Expr} {fa fb fc : SE} {pos : Pos} {es : List Expr} {aa : SA} {t t' : TS} {st : Stmt} {sts : List Stmt}
theorem swapped_none {tge ea : Expr} {env : Env} (ht : noTup ea = true) : swappedStores [tge] ea env = pure none := by
  unfold swappedStores
  split
  · rename_i h
    split at h
    · simp [noTup] at ht
    · simp [noTup] at ht
    · cases h
  · rfl
/-! ### one by one -/
theorem q_set (c : CxS T N G C k nm X sc W) {i : Nat} {x : Str} {p : Pos} (h1 : nm[i]? = some x) (h2 : locB sc x = true) (hc : plainE ea = true) (ha : PE X ea (tE N X.K W fa)) :
    PS X (.Assign [.Name x p] ea pos) (tS N X.K W fun σ h => (fa σ h).thenS σ fun d h1 => .nx (σ.set i (some d)) h1) := by
  obtain ⟨l1, l2⟩ := c.c.loc x h2
  exact PS.imp (fun D σ H ⟨ρ, hh, σd, rel, en, q⟩ => ⟨ρ, hh, σd, rel, en, ResS.bindE q en fun d h1 ρ1 H1 v g r q1 => q1 ρ1 H1 _ (.refl g.rel) ((en.mon g.mon).set i r)⟩)
    (ps_set c.c.nd (by rw [c.c.nm]; exact h1) l1 ha (swaps_of hc) l2)
theorem q_asg (c : CxS T N G C k nm X sc W) {tg : Tg} {tge : Expr} (hg : chkTg nm sc tg tge = true) (ht : noTup ea = true) (hc : plainE ea = true) (h1 : (assignEach [tge] X.env).map (·.2) = [assign tge X.env]) (ha : PE X ea (tE N X.K W fa)) :
    PS X (.Assign [tge] ea pos) (tS N X.K W fun σ h => (fa σ h).thenS σ fun d h1 => match tgset h1 tg d σ with
      | some σ' => .nx σ' h1
      | none => .bad) := by
  refine PS.imp (fun D σ H ⟨ρ, hh, σd, rel, en, q⟩ => ⟨ρ, hh, σd, rel, en, ResS.bindE q en fun d h1 ρ1 H1 v g r q1 => ⟨ρ1, h1, σd, d, g.rel, en.mon g.mon, r, ?_⟩⟩)
    (ps_asg ha (q_tg c.c hg) (by unfold swapsWithSole; exact swaps_of hc) (swapped_none ht) h1)
  cases hs : tgset h1 tg d σd with
  | none => rw [hs] at q1; exact q1
  | some σ' => rw [hs] at q1; exact fun σ2 en2 _ _ => q1 ρ1 H1 σ2 (.refl g.rel) en2
theorem q_ret (ha : PE X ea (tE N X.K W fa)) : PS X (.Return (some ea) pos) (tS N X.K W fun σ h => (fa σ h).thenS σ fun d h1 => .rt d h1) :=
  PS.imp (fun D σ H ⟨ρ, hh, σd, rel, en, q⟩ => ⟨ρ, hh, σd, rel, en, ResS.bindE q en fun d h1 ρ1 H1 v g r q1 => q1 ρ1 H1 v (.refl g.rel) r⟩) (ps_ret ha)
theorem q_retN : PS X (.Return none pos) (tS N X.K W fun _ h => .rt .non h) :=
  PS.imp (fun D σ H ⟨ρ, hh, σd, rel, en, q⟩ => q ρ H _ (.refl rel) .non) ps_retN
theorem q_pass : PS X (.Pass pos) (tS N X.K W fun σ h => .nx σ h) :=
  PS.imp (fun D σ H ⟨ρ, hh, σd, rel, en, q⟩ => q ρ H _ (.refl rel) en) ps_pass
theorem q_doc {x j p p'} : PS X (.Expr (.Constant (.str x) j p) p') (tS N X.K W fun σ h => .nx σ h) :=
  PS.imp (fun D σ H ⟨ρ, hh, σd, rel, en, q⟩ => q ρ H _ (.refl rel) en) ps_doc
theorem q_brk : PS X (.Break pos) (tS N X.K W fun σ h => .bk σ h) :=
  PS.imp (fun D σ H ⟨ρ, hh, σd, rel, en, q⟩ => q ρ H _ (.refl rel) en) ps_break
theorem q_cnt : PS X (.Continue pos) (tS N X.K W fun σ h => .ct σ h) :=
  PS.imp (fun D σ H ⟨ρ, hh, σd, rel, en, q⟩ => q ρ H _ (.refl rel) en) ps_continue
theorem q_expr (hc : plainE ea = true) (ha : PE X ea (tE N X.K W fa)) : PS X (.Expr ea pos) (tS N X.K W fun σ h => (fa σ h).thenS σ fun _ h1 => .nx σ h1) :=
  PS.imp (fun D σ H ⟨ρ, hh, σd, rel, en, q⟩ => ⟨ρ, hh, σd, rel, en, ResS.bindE q en fun d h1 ρ1 H1 v g r q1 => q1 ρ1 H1 σ (.refl g.rel) (en.mon g.mon)⟩) (ps_expr ha (swaps_of hc))
theorem q_cond {tc : ST} {fx fy : SX} {b c : List Stmt} (hc : PT X ec (tT N X.K W tc)) (hb : PSs X b (tS N X.K W fx)) (he : PSs X c (tS N X.K W fy)) :
    PS X (.If ec b c pos) (tS N X.K W fun σ h => (tc σ h).thenS σ fun b h1 => match b with
      | true => fx σ h1
      | false => fy σ h1) := by
  refine PS.imp (fun D σ H ⟨ρ, hh, σd, rel, en, q⟩ => ⟨ρ, hh, σd, rel, en, ResS.bindT q en fun b h1 ρ1 H1 g q1 => ?_⟩) (ps_if hc hb he)
  cases b with
  | true => exact iteT ⟨ρ1, h1, σd, g.rel, en.mon g.mon, q1⟩
  | false => exact iteF ⟨ρ1, h1, σd, g.rel, en.mon g.mon, q1⟩
theorem q_nilS : PSs X [] (tS N X.K W fun σ h => .nx σ h) :=
  PSs.imp (fun D σ H ⟨ρ, hh, σd, rel, en, q⟩ => q ρ H _ (.refl rel) en) pss_nil
theorem q_consS {fx fy : SX} (hs : PS X st (tS N X.K W fx)) (hr : PSs X sts (tS N X.K W fy)) : PSs X (st :: sts) (tS N X.K W fun σ h => (fx σ h).then fun σ1 h1 => fy σ1 h1) := by
  refine PSs.imp (fun D σ H ⟨ρ, hh, σd, rel, en, q⟩ => ⟨ρ, hh, σd, rel, en, ?_⟩) (pss_cons hs hr)
  cases hx : fx σd hh with
  | nx σ1 h1 =>
    simp only [hx] at q
    intro ρ1 H1 σ' g e
    exact ⟨ρ1, h1, σ1, g.rel, e, ResS.shift g q⟩
  | rt => simp only [hx] at q; exact q
  | bk => simp only [hx] at q; exact q
  | ct => simp only [hx] at q; exact q
  | exc => simp only [hx] at q; exact q
  | bad => simp only [hx] at q; exact q
/-! ### loops -/
theorem ResS.loop {D : Ends} {ρ : Rho} {H : Hp} {Nx : L2.St → Hp → Prop} {r : RS} {f : Ev → Hs → RS} (q : ResS N X.K W ρ H D (match r with
      | .nx σ' h' => f σ' h'
      | .ct σ' h' => f σ' h'
      | .bk σ' h' => .nx σ' h'
      | r => r)) (k : ∀ ρ1 h1 H1 σd σ', Grow N X.K ρ H ρ1 h1 H1 → EnvR X.K ρ1 H1 σd σ' → ResS N X.K W ρ1 H1 D (f σd h1) → Nx σ' H1) :
    ResS N X.K W ρ H { D with nx := Nx, ct := Nx, bk := D.nx } r := by
  cases r with
  | nx σ1 h1 => exact fun ρ1 H1 σ' g e => k ρ1 h1 H1 σ1 σ' g e (ResS.shift g q)
  | ct σ1 h1 => exact fun ρ1 H1 σ' g e => k ρ1 h1 H1 σ1 σ' g e (ResS.shift g q)
  | bk => exact q
  | rt => exact q
  | exc => exact q
  | bad => exact q
theorem q_whl (c : CxS T N G C k nm X sc W) {tc : ST} {fx : SX} {b : List Stmt} (hc : PT X ec (tT N X.K W tc)) (hb : PSs X b (tS N X.K W fx)) :
    PS X (.While ec b [] pos) (tS N X.K W fun σ h => whileN tc fx loopFuel σ h) := by
  refine PS.imp (fun D σ H ⟨ρ, hh, σd, rel, en, q⟩ => ?_) (ps_while c.pass hc hb)
  refine ⟨fun m σ H => ∃ ρ h σd, RelH N X.K ρ h H ∧ EnvR X.K ρ H σd σ ∧ ResS N X.K W ρ H D (whileN tc fx m σd h), ⟨loopFuel, ρ, hh, σd, rel, en, q⟩, ?_⟩
  clear q en rel
  rintro m σ H ⟨ρ, hh, σd, rel, en, q⟩
  cases m with
  | zero => exact q.elim
  | succ m =>
    unfold whileN at q
    refine ⟨ρ, hh, σd, rel, en, ResS.bindT q en fun b h1 ρ1 H1 g q1 => ?_⟩
    cases b with
    | false => exact iteF (q1 ρ1 H1 σ (.refl g.rel) (en.mon g.mon))
    | true =>
      refine iteT ⟨fun σ' H' => ∃ m', m' < m + 1 ∧ ∃ ρ h σd, RelH N X.K ρ h H' ∧ EnvR X.K ρ H' σd σ' ∧ ResS N X.K W ρ H' D (whileN tc fx m' σd h), fun σ' H' z => z, ρ1, h1, σd, g.rel, en.mon g.mon, ?_⟩
      exact ResS.loop q1 fun ρ2 h2 H2 σ2 σ' g2 e2 q2 => ⟨m, Nat.lt_succ_self m, ρ2, h2, σ2, g2.rel, e2, q2⟩
theorem q_each (c : CxS T N G C k nm X sc W) {tg : Tg} {tge iter : Expr} {fi : Ev → Hs → R Src} {fx : SX} {b : List Stmt} (hg : chkTg nm sc tg tge = true) (hf : foldB iter = true) (hi : PI X tge iter (tI N X.K W fi)) (hb : PSs X b (tS N X.K W fx)) :
    PS X (.For tge iter b [] pos) (tS N X.K W fun σ h => (fi σ h).thenS σ fun src h1 => eachN src tg fx loopFuel 0 σ h1) := by
  refine PS.imp (fun D σ H ⟨ρ, hh, σd, rel, en, q⟩ => ⟨ρ, hh, σd, rel, en, ?_⟩) (ps_for c.pass c.c.calm hi (q_tg c.c hg) hb (fold_of hf))
  cases hx : fi σd hh with
  | bad => simp only [hx] at q; exact q
  | exc cc fs h' => simp only [hx] at q; exact fun ρ1 H1 dd fv g a b => q ρ1 H1 σ dd fv g (en.mon g.mon) a b
  | ok src h1 =>
    simp only [hx] at q
    intro ρ1 H1 J g j
    have q1 := ResS.shift g q
    refine ⟨fun i m σ H => ∃ ρ h σd, RelH N X.K ρ h H ∧ EnvR X.K ρ H σd σ ∧ SrcJ X.K ρ H src J ∧ ResS N X.K W ρ H D (eachN src tg fx m i σd h), ⟨loopFuel, ρ1, h1, σd, g.rel, en.mon g.mon, j, q1⟩, ?_⟩
    clear q1 q j g en rel
    rintro i m σ H ⟨ρ, hh, σd, rel, en, j, q⟩
    cases m with
    | zero => exact q.elim
    | succ m =>
      unfold eachN at q
      cases hi : src.item hh i with
      | none => rw [hi] at q; exact q.elim
      | some o =>
        cases o with
        | none =>
          rw [hi] at q
          exact .inl ⟨src_stop rel j hi, q ρ H σ (.refl rel) en⟩
        | some d =>
          rw [hi] at q
          dsimp only at q
          obtain ⟨hgo, hy⟩ := src_go rel j hi
          refine .inr ⟨hgo, fun σ' H' => ∃ m', m' < m + 1 ∧ ∃ ρ h σd, RelH N X.K ρ h H' ∧ EnvR X.K ρ H' σd σ' ∧ SrcJ X.K ρ H' src J ∧ ResS N X.K W ρ H' D (eachN src tg fx m' (i + 1) σd h), fun σ' H' z => z, fun x H' hyl => ?_⟩
          obtain ⟨g2, rd⟩ := hy x H' hyl
          refine ⟨ρ, hh, σd, d, g2.rel, en.mon g2.mon, rd, ?_⟩
          cases ht : tgset hh tg d σd with
          | none => rw [ht] at q; exact q
          | some σ1 =>
            rw [ht] at q
            dsimp only at q ⊢
            intro σ2 en2 _ _
            refine ⟨ρ, hh, σ1, g2.rel, en2, ?_⟩
            exact ResS.loop (ResS.shift g2 q) fun ρ3 h3 H3 σ3 σ' g3 e3 q3 => ⟨m, Nat.lt_succ_self m, ρ3, h3, σ3, g3.rel, e3, (j.mon g2.mon).mon g3.mon, q3⟩
end
end Z
end
section
set_option Elab.async false
set_option linter.all false
set_option maxRecDepth 100000
set_option maxHeartbeats 1000000
namespace Z
open PySem L2 PyProof.Rows
section
variable {T : Tb} {N : Nm} {G : Gm} {C : Cl} {k : Nat} {nm : List Str} {X : Cx} {sc : Scope} {W : WX}
variable {ea eb ec : Expr} {fa fb fc : SE} {pos : Pos}
/-! ### fields are stored -/
theorem setF_at {ρ h H d f v x y h' u} (tab : ∀ c f, G.hasF c f = true → Cls X.K (N.cls c) ∧ NoAttr X.K (N.cls c) (N.fld f)) (rel : RelH N X.K ρ h H) (rd : Rep X.K ρ H d x) (rv : Rep X.K ρ H v y) (e : setFop G f d v h = .ok u h') :
    ∃ a c dx fv, x = .ref a ∧ H a = some (.ins (N.cls c) dx fv) ∧ Cls X.K (N.cls c) ∧ NoAttr X.K (N.cls c) (N.fld f) ∧ fv.length < 1000 ∧ Grow N X.K ρ H ρ h' (upd H a (.ins (N.cls c) dx (putF (N.fld f) y fv))) ∧ clsOf h d = some c := by
  unfold setFop at e
  split at e
  · obtain ⟨a, rfl, ea⟩ := rd.ref_inv
    split at e
    · rename_i c fs g
      split at e
      · rename_i hf
        cases e
        simp only [Bool.and_eq_true, decide_eq_true_eq] at hf
        obtain ⟨dx, fv, c1, ra, hlen⟩ := rel.at ea g
        obtain ⟨h1, h2⟩ := tab c f hf.1
        refine ⟨a, c, dx, fv, rfl, c1, h1, h2, by rw [← ra.length]; omega, ?_, by simp only [clsOf, g]⟩
        refine Grow.write rel ea g fun m => ?_
        have mm : Mon X.K ρ H ρ (upd H a (.ins (N.cls c) dx (putF (N.fld f) y fv))) := ⟨fun _ _ z => z, m⟩
        refine ⟨dx, _, upd_same, (FldR.put (rv.mon mm) (ra.mon mm)), ?_⟩
        have := fput_length f v fs
        omega
      · cases e
    · cases e
  · cases e
theorem setF_q (f : Nat) (d v : D) (h : Hs) : (∃ h', setFop G f d v h = .ok () h') ∨ setFop G f d v h = .bad := by
  unfold setFop
  repeat' split
  all_goals first | exact .inr rfl | exact .inl ⟨_, rfl⟩
theorem q_setF (c : CxS T N G C k nm X sc W) {f : Nat} {x : Str} {p : Pos} (hx : T.fld f = x) (hc : plainE eb = true) (ha : PE X ea (tE N X.K W fa)) (hb : PE X eb (tE N X.K W fb)) :
    PS X (.Assign [.Attribute ea x p] eb pos) (tS N X.K W fun σ h => (fb σ h).thenS σ fun v h1 => (fa σ h1).thenS σ fun d h2 => (setFop G f d v h2).thenS σ fun _ h3 => .nx σ h3) := by
  rw [← hx, c.c.tab.nf]
  refine PS.imp (fun D σ H ⟨ρ, hh, σd, rel, en, q⟩ => ⟨ρ, hh, σd, rel, en, ResS.bindE q en fun v h1 ρ1 H1 y g r q1 => ⟨ρ1, h1, σd, g.rel, en.mon g.mon, ResS.bindE q1 (en.mon g.mon) fun d h2 ρ2 H2 x g2 r2 q2 => ?_⟩⟩) (ps_fld ha hb (swaps_of hc))
  rcases setF_q (G := G) f d v h2 with ⟨h', e⟩ | e
  · rw [e] at q2
    obtain ⟨a, cc, dx, fv, rfl, z1, z2, z3, z4, g3, _⟩ := setF_at (G := G) c.c.tab.fld g2.rel r2 (r.mon g2.mon) e
    exact ⟨a, _, dx, fv, rfl, z1, z2, z3, z4, q2 _ _ σ g3 (((en.mon g.mon).mon g2.mon).mon g3.mon)⟩
  · rw [e] at q2; exact q2.elim
/-! ### items are stored -/
theorem DicR.any {K ρ H k kk} (e : kOf k = some kk) : ∀ {ks kv}, DicR K ρ H ks kv → (ks.any fun p => keq p.1 k) = (kv.any fun p => decide (p.1 = kk))
  | _, _, .nil => rfl
  | _, _, .cons h1 a b => by rw [List.any_cons, List.any_cons, keq_dec h1 e, DicR.any e b]
theorem DicR.map {K ρ H k kk v y} (e : kOf k = some kk) (rv : Rep K ρ H v y) : ∀ {ks kv}, DicR K ρ H ks kv → DicR K ρ H (ks.map fun p => if keq p.1 k then (p.1, v) else p) (kv.map fun p => if p.1 = kk then (p.1, y) else p)
  | _, _, .nil => .nil
  | _, _, .cons (k := k') (kk := a) h1 r b => by
    rw [List.map_cons, List.map_cons]
    have hk := keq_dec h1 e
    by_cases z : a = kk
    · rw [if_pos (by rw [hk]; simpa using z), if_pos z]
      exact .cons h1 rv (DicR.map e rv b)
    · rw [if_neg (by rw [hk]; simpa using z), if_neg z]
      exact .cons h1 r (DicR.map e rv b)
theorem DicR.append {K ρ H} : ∀ {ks kv ks' kv'}, DicR K ρ H ks kv → DicR K ρ H ks' kv' → DicR K ρ H (ks ++ ks') (kv ++ kv')
  | _, _, _, _, .nil, b => b
  | _, _, _, _, .cons h1 a b, c => .cons h1 a (DicR.append b c)
theorem DicR.length {K ρ H} : ∀ {ks kv}, DicR K ρ H ks kv → ks.length = kv.length
  | _, _, .nil => rfl
  | _, _, .cons h1 a b => congrArg (· + 1) b.length
theorem DicR.put {K ρ H k kk v y ks kv} (e : kOf k = some kk) (rv : Rep K ρ H v y) (r : DicR K ρ H ks kv) : DicR K ρ H (dput ks k v) (putK kv kk y) := by
  unfold dput putK
  rw [DicR.any e r]
  split
  · exact r.map e rv
  · exact r.append (.cons e rv .nil)
def rSetA (N : Nm) (K : PySem.W.Frag) : TSet := fun o i v H Q => ∃ ρ h d j w, RelH N K ρ h H ∧ Rep K ρ H d o ∧ Rep K ρ H j i ∧ Rep K ρ H w v ∧ ∃ h', setIop d j w h = .ok () h' ∧ ∀ H', Grow N K ρ H ρ h' H' → Q H'
theorem pset_any (hu : X.A.units + 65 < cLine) : PSet X (rSetA N X.K) := by
  intro pins s σ H o i v ov iv u Q I ro ri rv ⟨ρ, h, d, j, w, rel, rd, rj, rw', h', e, q⟩
  unfold setIop at e
  split at e
  · obtain ⟨a, rfl, ea⟩ := rd.ref_inv
    split at e
    · rename_i ds g
      split at e
      · cases rj.int_inv
        split at e
        · rename_i kk hk
          cases e
          obtain ⟨vs, z1, z2⟩ := rel.at ea g
          refine set_list pins s σ H _ _ v ov iv u Q I ro ri rv ⟨a, vs, _, kk, rfl, rfl, z1, by rw [← z2.length]; exact hk, q _ ?_⟩
          refine Grow.write rel ea g fun m => ?_
          have mm : Mon X.K ρ H ρ (upd H a (.lst (vs.set kk v))) := ⟨fun _ _ z => z, m⟩
          exact ⟨_, upd_same, Reps.set (rw'.mon mm) kk (z2.mon mm)⟩
        · cases e
      · cases e
    · rename_i ks g
      split at e
      · rename_i hk
        cases e
        simp only [Bool.and_eq_true, decide_eq_true_eq] at hk
        obtain ⟨kv, z1, z2⟩ := rel.at ea g
        cases hkk : kOf j with
        | none => rw [hkk] at hk; cases hk.1
        | some kk =>
          have ev := kOf_rep rj hkk
          subst ev
          refine set_dict (by omega) pins s σ H _ _ v ov iv u Q I ro ri rv ⟨a, _, rfl, DPut.k z1 (by rw [← z2.length]; exact Nat.lt_of_lt_of_le hk.2 (big_line (Nat.le_refl _))), q _ ?_⟩
          refine Grow.write rel ea g fun m => ?_
          have mm : Mon X.K ρ H ρ (upd H a (.dK (putK kv kk v))) := ⟨fun _ _ z => z, m⟩
          exact ⟨_, upd_same, DicR.put hkk (rw'.mon mm) (z2.mon mm)⟩
      · cases e
    · cases e
  · cases e
theorem setI_q (o i v : D) (h : Hs) : (∃ h', setIop o i v h = .ok () h') ∨ setIop o i v h = .bad := by
  unfold setIop
  repeat' split
  all_goals first | exact .inr rfl | exact .inl ⟨_, rfl⟩
theorem sub_of {o i : Expr} {env : Env} {p : Pos} (h : plainE i = true) : ∀ v, assign (.Subscript o i p) env v = (do
      let ov ← holding [v] (eval o env)
      let iv ← holding [v, ov] (eval i env)
      standAt p
      holding [v, ov, iv] (setItem ov iv v)
      release [v, ov, iv] []) := by
  intro v
  cases i <;> first | rfl | (simp [plainE] at h)
theorem q_setI (c : CxS T N G C k nm X sc W) {p : Pos} (hi : plainE eb = true) (hc : plainE ec = true) (ha : PE X ea (tE N X.K W fa)) (hb : PE X eb (tE N X.K W fb)) (hv : PE X ec (tE N X.K W fc)) (hn : noTup ec = true) :
    PS X (.Assign [.Subscript ea eb p] ec pos) (tS N X.K W fun σ h => (fc σ h).thenS σ fun v h1 => (fa σ h1).thenS σ fun d h2 => (fb σ h2).thenS σ fun k h3 => (setIop d k v h3).thenS σ fun _ h4 => .nx σ h4) := by
  refine PS.imp (fun D σ H ⟨ρ, hh, σd, rel, en, q⟩ => ⟨ρ, hh, σd, rel, en, ResS.bindE q en fun v h1 ρ1 H1 y g r q1 => ⟨ρ1, h1, σd, g.rel, en.mon g.mon, ResS.bindE q1 (en.mon g.mon) fun d h2 ρ2 H2 x g2 r2 q2 =>
    ⟨ρ2, h2, σd, g2.rel, (en.mon g.mon).mon g2.mon, ResS.bindE q2 ((en.mon g.mon).mon g2.mon) fun j h3 ρ3 H3 z g3 r3 q3 => ?_⟩⟩⟩) (ps_asg hv (pg_sub ha hb (pset_any (N := N) c.c.hu) (sub_of hi)) (by unfold swapsWithSole; exact swaps_of hc) (swapped_none hn) (by rfl))
  rcases setI_q d j v h3 with ⟨h', e⟩ | e
  · rw [e] at q3
    exact ⟨ρ3, h3, d, j, v, g3.rel, r2.mon g3.mon, r3, (r.mon g2.mon).mon g3.mon, h', e, fun H' g4 => q3 _ _ σ g4 ((((en.mon g.mon).mon g2.mon).mon g3.mon).mon g4.mon)⟩
  · rw [e] at q3; exact q3.elim
/-! ### augmented -/
def augB : Bop → Operator → Bool
  | .add, .Add => true
  | .sub, .Sub => true
  | _, _ => false
theorem aug_int {o : Bop} {p : Operator} (h : augB o p = true) : ∃ f : Int → Int → Int, PIp X p (ipI f) ∧ (∀ i j hh, binop o (.int i) (.int j) hh = .ok (.int (f i j)) hh) ∧ InOp X p fun x y H Q => ∃ i j, x = .int i ∧ y = .int j ∧ Q (.int (f i j)) H := by
  cases o <;> cases p <;> simp only [augB, Bool.false_eq_true] at h
  · exact ⟨_, ip_add, fun i j hh => rfl, in_add⟩
  · exact ⟨_, ip_sub, fun i j hh => rfl, in_sub⟩
theorem q_aug (c : CxS T N G C k nm X sc W) {i : Nat} {x : Str} {p : Pos} {o : Bop} {op : Operator} (ho : augB o op = true) (h1 : nm[i]? = some x) (h2 : locB sc x = true) (ha : PE X ea (tE N X.K W fa)) :
    PS X (.AugAssign (.Name x p) op ea pos) (tS N X.K W fun σ h => match σ[i]? with
    | some (some x) => (fa σ h).thenS σ fun y h1 => match x, y with
      | .int _, .int _ => (binop o x y h1).thenS σ fun z h2 => .nx (σ.set i (some z)) h2
      | _, _ => .bad
    | _ => .bad) := by
  obtain ⟨l1, l2⟩ := c.c.loc x h2
  obtain ⟨f, f1, f2, f3⟩ := aug_int (X := X) ho
  refine PS.imp (fun D σ H ⟨ρ, hh, σd, rel, en, q⟩ => ?_) (ps_aug c.c.nd (by rw [c.c.nm]; exact h1) l1 ha f1 l2)
  dsimp only at q
  split at q
  · rename_i d hd
    obtain ⟨v, hv, rv⟩ := en.2 i d hd
    refine ⟨v, hv, ρ, hh, σd, rel, en, ResS.bindE q en fun e h1 ρ1 H1 y g r q1 => ?_⟩
    cases d <;> cases e <;> try exact q1.elim
    rename_i a b
    cases rv.int_inv
    cases r.int_inv
    simp only [f2] at q1
    exact ⟨a, b, rfl, rfl, q1 ρ1 H1 _ (.refl g.rel) ((en.mon g.mon).set i (.int _))⟩
  · exact q.elim
theorem q_augF (c : CxS T N G C k nm X sc W) {f : Nat} {x : Str} {p : Pos} {o : Bop} {op : Operator} (ho : augB o op = true) (hx : T.fld f = x) (ha : PE X ea (tE N X.K W fa)) (hb : PE X eb (tE N X.K W fb)) :
    PS X (.AugAssign (.Attribute ea x p) op eb pos) (tS N X.K W fun σ h => (fa σ h).thenS σ fun d h1 => (fldop G f d h1).thenS σ fun x h2 => (fb σ h2).thenS σ fun y h3 => match x, y with
    | .int _, .int _ => if decide (clsOf h1 d = clsOf h3 d) then (binop o x y h3).thenS σ fun z h4 => (setFop G f d z h4).thenS σ fun _ h5 => .nx σ h5 else .bad
    | _, _ => .bad) := by
  rw [← hx, c.c.tab.nf]
  obtain ⟨g0, f1, f2, f3⟩ := aug_int (X := X) ho
  refine PS.imp (fun D σ H ⟨ρ, hh, σd, rel, en, q⟩ => ⟨ρ, hh, σd, rel, en, ResS.bindE q en fun d h1 ρ1 H1 v g r q1 => ?_⟩) (ps_fldaug ha hb f3)
  cases hf : fldop G f d h1 with
  | bad => rw [hf] at q1; exact q1.elim
  | exc => have := quiet_fld (G := G) f d h1; rw [hf] at this; exact this.elim
  | ok r0 h2 =>
    rw [hf] at q1
    obtain ⟨rfl, a, cc, dx, fv, w, rfl, z1, z2, z3, z4, z5, z6⟩ := fld_at (G := G) c.c.tab.fld g.rel r hf
    refine ⟨a, _, dx, fv, w, rfl, z1, z2, z3, z4, ρ1, h2, σd, g.rel, en.mon g.mon, ResS.bindE q1 (en.mon g.mon) fun e h3 ρ2 H2 y g2 r2 q2 => ?_⟩
    cases r0 <;> cases e <;> try exact q2.elim
    rename_i i j
    cases z5.int_inv
    cases r2.int_inv
    dsimp only at q2
    refine ⟨i, j, rfl, rfl, ?_⟩
    by_cases hcl : clsOf h2 d = clsOf h3 d
    · rw [if_pos (by simpa using hcl)] at q2
      simp only [f2, R.thenS] at q2
      rcases setF_q (G := G) f d (.int (g0 i j)) h3 with ⟨h', e⟩ | e
      · simp only [e] at q2
        obtain ⟨a', c', dx', fv', ea', y1, y2, y3, y4, g3, y5⟩ := setF_at (G := G) c.c.tab.fld g2.rel (r.mon g2.mon) (.int _) e
        cases ea'
        rw [z6, y5] at hcl
        cases hcl
        exact ⟨dx', fv', y1, y4, q2 _ _ σ g3 (((en.mon g.mon).mon g2.mon).mon g3.mon)⟩
      · simp only [e] at q2; exact q2.elim
    · rw [if_neg (by simpa using hcl)] at q2; exact q2.elim
end
end Z
end
section
set_option Elab.async false
set_option linter.all false
set_option maxRecDepth 100000
set_option maxHeartbeats 4000000
namespace PySem.W
open PySem PySem.Spec PySem.Calls PyProof.Rows
section
variable {prog : Program} {w : World} {A : Around} {E : Value → Shared → Prop} {s : Shared} {K : Frag} {x D : Addr} {ox : Obj} {od : Option Obj}
theorem z_fo {C : Addr} {nm : Str} {a g : Value} (k1 : (clsIn K C).isSome = true) (k2 : findIn K (.ref C) nm = some (some a)) (k3 : specialIn K a "__get__" = some (some g)) (k4 : takesIn K a = some true) : findObj K C od nm = some (.bind g a) := by
  cases e : clsIn K C with
  | none => rw [e] at k1; cases k1
  | some cd =>
    unfold findObj
    rw [e, Option.bind_some, k2, Option.bind_some]
    simp [k3, k4]
theorem z_class {Q : Option Value → Shared → Prop} (C : L2.ExcC K D) (X : K.In s.heap) (I : InstAt s.heap x ox D od) (h : Q (some (.ref D)) { s with toks := s.toks + 1 }) :
    wpAny (model prog w) A (getAttr? (.ref x) "__class__") Q E s := by
  have ff : findObj K D od "__class__" = some (.bind (.builtin "getset_descriptor.__get__") (.builtin "object.__class__")) :=
    z_fo (by obtain ⟨cd, e, _⟩ := any_some C.hd; rw [e]; rfl) C.ha C.hn C.ht
  cases s with
  | mk hp g d t os =>
  have T0 := I.type (M := model prog w)
  have T1 := looks_findIn (M := model prog w) X C.hg
  have T3 := looks_find (M := model prog w) X I ff
  have onD : onTheHeap (Value.ref D) = true := rfl
  have under : Looks (model prog w) hp (isInstance (.ref x) (.type "BaseException")) true := T0.andThen (looks_subIn X C.hs)
  have y0 : (false && onTheHeap (Value.builtin "BaseException.__getattribute__")) = false := rfl
  have y2 : (Value.builtin "BaseException.__getattribute__" == Value.builtin "object.__getattribute__") = false := by decide +kernel
  have y1 : (onTheHeap (Value.ref D) && Value.builtin "BaseException.__getattribute__" == Value.builtin "object.__getattribute__") = false := by rw [y2]; rfl
  unfold getAttr? getAttrBy? getAttrBy
  refine wpAny_bind (wpAny_mkText (wpAny_bind (wpAny_attempt (wpAny_holding (wpAny_bind (T0.at (wpAny_bind (T1.at ?_))))))))
  show wpAny _ _ (if (onTheHeap (Value.ref D) && Value.builtin "BaseException.__getattribute__" == Value.builtin "object.__getattribute__") = true then _ else _) _ _ _
  rw [y1, if_neg Bool.false_ne_true]
  unfold getAttrByItsOwn hookBefore
  refine wpAny_bind ?_
  rw [if_pos onD]
  refine (looks_findIn (M := model prog w) X C.hk).at ?_
  refine wpAny_bind (wpAny_attempt (wpAny_holding ?_))
  unfold callGetattribute
  rw [y0, if_neg Bool.false_ne_true]
  unfold boundAndCalled
  rw [PySem.F.excAttr_ValueError.ga.bind (.ref x)]
  refine wpAny_bind (wpAny_pure ?_)
  show wpAny _ _ (call (.builtin "BaseException.__getattribute__") [.ref x, .str "__class__" t]) _ _ _
  refine wpAny_call (codeAny_call_builtin PySem.F.excAttr_ValueError.ga.plain PySem.F.entry_bexc_ga ?_)
  refine @check_slot (model prog w) _ _ ⟨hp, g, d, t + 1, os⟩ "BaseException.__getattribute__" "BaseException" "__getattribute__" (.ref x) [.str "__class__" t] [] _ (by decide +kernel) (by decide +kernel) under (PySem.F.args_bexc_ga (.ref x) (.str "__class__" t)) ?_
  unfold Builtin.«object.__getattribute__»
  refine wpAny_bind (wpAny_of_eq (a := ((Value.ref x : Value), [Value.str "__class__" t])) (by first | rfl | (simp only [slotArgs]; rfl)) ?_)
  refine wpAny_bind (wpAny_pure (wpAny_bind (T0.at (wpAny_bind (T3.at ?_)))))
  show wpAny _ _ (holding [Value.builtin "object.__class__"] (call (.builtin "getset_descriptor.__get__") [.builtin "object.__class__", .ref x, .ref D]) >>= ret) _ _ _
  refine wpAny_bind (wpAny_holding (wpAny_call (class_get (s := ⟨hp, g, d, t + 1, os⟩) (ox := ox) (od := od) X I C.hm ?_)))
  refine wpAny_pure ?_
  show wpAny _ _ (handedOut (.ref D)) _ _ _
  rw [handedOut_of (v := .ref D) rfl]
  first
    | exact wpAny_pure (wpAny_pure h)
    | exact wpAny_pure h
    | exact wpAny_pure (wpAny_bind (wpAny_pure (wpAny_pure h)))
theorem z_kitx (C : L2.ExcC K D) : KitX K (.ref x) (.ref D) (fun h => InstAt h x ox D od) where
  ty := fun _ _ _ I => I.type
  it := fun M h X _ => by
    obtain ⟨cdD, e, _⟩ := any_some C.hd
    unfold clsIn at e
    split at e
    · rename_i ho
      exact fun A' Q' E' s' k q => by
        unfold isType loadHead
        exact wpAny_bind (wpAny_loadPart (k _ _ (X _ _ ho)) (wpAny_pure q))
    · cases e
  ne := (handS_kitx_exc (x := x) (ox := ox) C.hg C.hk C.hs C.hd C.ha C.hn C.ht C.hm).ne
  ca := fun X I k => z_class C X I k
end
end PySem.W
namespace Z
open PySem L2 PyProof.Rows
/-- isinstance(e, c) in an except suite -/
theorem call_isX {X : Cx} {a D : Addr} {oe : Obj} {d : Option Addr} {pn : List (Addr × Obj)} (C : ExcC X.K D) (hz : Zc (.ref D) d oe) (hf : ∃ vs, oe.data = .fields vs) :
    ∀ pins s σ H xs us Q, Inv (X.suite a ((a, oe) :: pn)) pins σ H s → (∀ dd, d = some dd → ∃ fs, H dd = some (.xd fs)) → Vals xs us → rIsE X.K D a xs H Q →
      wpAny (model X.prog X.w) (X.suite a ((a, oe) :: pn)).A (call (.builtin "isinstance") us) (EP (X.suite a ((a, oe) :: pn)) pins σ Q) (fun _ _ => False) s := by
  intro pins s σ H xs us Q I hd r h
  obtain ⟨c, cv, b, rfl, hcv, e, q⟩ := h
  cases r with
  | cons rx rr =>
    cases rr with
    | cons rt rr =>
      cases rr
      cases rx
      have ec := hcv _ rt
      subst ec
      obtain ⟨hget, _⟩ := I.pin (a, oe) (List.mem_append_left _ List.mem_cons_self)
      obtain ⟨vs, hv⟩ := hf
      have J : ∃ od, PySem.W.InstAt s.heap a oe D od := by
        obtain ⟨oc, odd, oda, osl⟩ := oe
        obtain ⟨h1, h2⟩ := hz
        dsimp only at h1 h2 hv
        subst h1 h2 hv
        cases odd with
        | none => exact ⟨none, hget, rfl, rfl, trivial⟩
        | some dd =>
          obtain ⟨fs, hdd⟩ := hd dd rfl
          have hx : ObjOk X.prog X.w H s.heap dd (.xd fs) := I.hok dd _ hdd
          obtain ⟨mA, hns, hr⟩ := hx
          obtain ⟨od, ho, hl⟩ := lookIn_ns hns
          exact ⟨some od, hget, rfl, rfl, ho⟩
      obtain ⟨od, J⟩ := J
      exact PySem.W.kia_one (PySem.W.z_kitx C) I.kIn J e (fun z => nomatch z) fun tk => ⟨.bl b, H, I.kept (t' := tk) fun _ _ z => z, rfl, q⟩
end Z
end
section
set_option Elab.async false
set_option linter.all false
set_option maxRecDepth 100000
set_option maxHeartbeats 4000000
namespace Z
open PySem L2 PyProof.Rows

/-! ## the making of an own exception -/
/-- what an f-string of ours takes -/
def FmtV : V → Prop
  | .non => True
  | .int i => i.natAbs.log2 < 1920
  | .str y => y.length ≤ 100000
  | _ => False
def tFmtA (te : TE) : TE := fun σ H Q => te σ H fun x H1 => FmtV x ∧ ∀ y : Str, y.length ≤ 100000 → Q (.str y) H1
theorem gives_non : Gives (Builtin.«NoneType.__repr__» ⟨[.none], []⟩) (.str "None") := .of_eq rfl
theorem pe_fmtA {X : Cx} {e : Expr} {te : TE} {pos : Pos} (hu : X.A.units + 65 < cLine) (he : PE X e te) : PE X (.FormattedValue e (-1) none pos) (tFmtA te) := by
  refine ⟨fun pins s σ H Q I h => wpAny_FormattedValue_plain (thn (he.run pins s σ H _ I h) fun v s1 ⟨x, H1, I1, r1, f, q⟩ => ?_)⟩
  cases x <;> simp only [FmtV] at f
  · obtain rfl : v = Value.none := r1
    refine wpAny_formatField_slot (fun _ _ => nofun) (by omega) (typeIs_none _) F.slot_NoneType_format F.slot_NoneType_str F.slot_NoneType_repr.toG ?_
    exact call_gives F.slot_NoneType_repr (typeIs_none _) F.entry_NoneType_repr (F.args_NoneType_repr_1 _) gives_non ⟨by decide +kernel, _, _, rfl, .str "None", H1, (I1.tok _).tok _, ⟨_, rfl⟩, q _ (by decide +kernel)⟩
  · rename_i i
    obtain ⟨t, rfl⟩ := r1
    have l := int_text_length_le (k := 1920) (by decide) f
    exact wpAny_formatField_int f ⟨.str (toString i), H1, I1.tok _, ⟨_, rfl⟩, q _ (by rw [PySem.ofString_length]; omega)⟩
  · rename_i y
    obtain ⟨t, rfl⟩ := r1
    exact wpAny_formatField_str ⟨.str y, H1, I1, ⟨t, rfl⟩, q y f⟩ ⟨.str y, H1, I1.tok _, ⟨_, rfl⟩, q y f⟩ (by rw [sizeLine_eq]; omega)
def TxtOk (σ : L2.St) (t : TE) : Prop := ∀ (H : Hp) (Q : VK), (∀ y : Str, y.length ≤ 100000 → Q (.str y) H) → t σ H Q
theorem joined_ok {σ : L2.St} : ∀ {ts : List TE} {acc : Str} {H : Hp} {Q : Str → Hp → Prop}, (∀ t ∈ ts, TxtOk σ t) → acc.length + 100000 * ts.length ≤ sizeLine → (∀ out, Q out H) → tJs ts acc σ H Q
  | [], acc, H, Q, _, _, q => q acc
  | t :: ts, acc, H, Q, h, l, q => by
    refine h t List.mem_cons_self H _ fun y hy => ⟨y, rfl, ?_, ?_⟩
    · rw [Str.length_append]
      simp only [List.length_cons] at l
      omega
    · refine joined_ok (fun t' ht => h t' (List.mem_cons_of_mem _ ht)) ?_ q
      rw [Str.length_append]
      simp only [List.length_cons] at l
      omega
/-- B.__init__, B an own base without one -/
structure BaseInit (K : PySem.W.Frag) (B : Addr) : Prop where
  rd : PySem.W.readsIn K B (.type "type") = true
  ga : PySem.W.specialIn K (.ref B) "__getattribute__" = some (some (.builtin "type.__getattribute__"))
  at_ : PySem.W.findCls K (.ref B) (.type "type") "__init__" = some (.val (.builtin "ValueError.__init__"))
theorem pe_binit {X : Cx} {b : Str} {B : Addr} {p1 p2 pos : Pos} {e : Expr} {es : List Expr} {ta : TA} (hg : Gl X b) (hm : X.mg b = some (.ref B)) (hd : (b == ("__debug__" : Str)) = false) (T : BaseInit X.K B) (hs : (e :: es).all noStar = true) (hn : (e :: es).length < 30) (hl : (p2.endLine == pos.line) = true)
    (ha : PA X (e :: es) ta) : PE X (.Call (.Attribute (.Name b p1) "__init__" p2) (e :: es) [] pos) (tVeI X.K ta) := by
  obtain ⟨pl, ht⟩ := meth_form (env := X.env) (m := ("__init__" : Str)) (o := .Name b p1) rfl hs hn hl
  simp only [List.all_cons, Bool.and_eq_true] at hs
  refine ⟨fun pins s σ H Q I h => PySem.W.methodCall_KW (ld_glob I hg hm ?_ hd) ht⟩
  refine PySem.W.method_cls I.kIn T.ga (PySem.W.cls_value I.kIn T.rd T.at_ (by decide +kernel) ?_)
  refine PyProof.Rows.callWith_method1 (thn (ha.run pos pins _ σ H _ (I.tok _) h) fun us s1 ⟨vs, H1, I1, r1, a, C, ws, ev, len, TC, ea, q⟩ => ?_) (star_of hs.1) (stars_of hs.2)
  subst ev
  cases r1 with
  | @cons _ u0 _ ur ra rw' =>
    obtain rfl : u0 = Value.ref a := ra
    exact oinit_ok TC I1 ea (by rw [← Paired.length rw', sizeLine_eq]; omega) fun s' J => ⟨.non, H1, J, rfl, q⟩
/-- what stands behind some stores -/
def InitAt (a C : Addr) (H0 : Hp) (pre : List (Str × V)) (H : Hp) : Prop :=
  (pre = [] ∧ H = H0 ∧ H0 a = some (exo a C none)) ∨ (pre ≠ [] ∧ ∃ d, H0 d = none ∧ d ≠ a ∧ H a = some (exo a C (some d)) ∧ H d = some (exd d pre) ∧ ∀ b, b ≠ a → b ≠ d → H b = H0 b)
def tAs (K : PySem.W.Frag) : List (Str × Nat) → TS
  | [] => tNext
  | (f, j) :: r => tSeq (tOst K f (tVar 0) (tVar j)) (tAs K r)
theorem tAs_ok {K : PySem.W.Frag} {a C : Addr} {H0 : Hp} (T : OexC K C) (h0 : H0 a = some (exo a C none)) {D : Ends} {σ : L2.St} (hσ : σ[0]? = some (some (.ref a))) : ∀ {l : List (Str × Nat)} {ws : List V} {pre : List (Str × V)} {H : Hp},
    l.length = ws.length → (∀ (i : Nat) (p : Str × Nat) (w : V), l[i]? = some p → ws[i]? = some w → σ[p.2]? = some (some w)) → (∀ p ∈ l, PySem.W.findIn K (.ref C) p.1 = some none) → pre.length + l.length ≤ 900 → InitAt a C H0 pre H →
    (∀ H2, InitAt a C H0 (((l.map (·.1)).zip ws).reverse ++ pre) H2 → D.nx σ H2) → tAs K l D σ H
  | [], ws, pre, H, hl, hw, hf, hn, hi, q => by
    cases ws with
    | nil => exact q H hi
    | cons => cases hl
  | (f, j) :: l, ws, pre, H, hl, hw, hf, hn, hi, q => by
    cases ws with
    | nil => cases hl
    | cons w ws =>
      have hj := hw 0 (f, j) w rfl rfl
      have next : ∀ H', InitAt a C H0 ((f, w) :: pre) H' → tAs K l D σ H' := fun H' hi' => by
        refine tAs_ok T h0 hσ (l := l) (ws := ws) (Nat.succ.inj hl) (fun i p w' e1 e2 => hw (i + 1) p w' e1 e2) (fun p hp => hf p (List.mem_cons_of_mem _ hp)) (by simp only [List.length_cons] at hn ⊢; omega) hi' fun H2 hi2 => q H2 ?_
        simpa using hi2
      refine ⟨w, hj, .ref a, hσ, a, C, rfl, T, hf _ List.mem_cons_self, ?_⟩
      rcases hi with ⟨rfl, rfl, ea⟩ | ⟨_, d, hd, hda, ea, ed, hk⟩
      · left
        refine ⟨ea, fun dx hdx hne => next _ (.inr ⟨by simp, dx, hdx, hne, upd_same, ?_, fun b h1 h2 => ?_⟩)⟩
        · rw [upd_ne hne, upd_same]
        · rw [upd_ne h1, upd_ne h2]
      · right
        refine ⟨d, pre, ea, ed, by simp only [List.length_cons] at hn; omega, next _ (.inr ⟨by simp, d, hd, hda, ?_, upd_same, fun b h1 h2 => ?_⟩)⟩
        · rw [upd_ne (Ne.symm hda)]; exact ea
        · rw [upd_ne h2]; exact hk b h1 h2
/-! ### the text of __init__ -/
def partsB (N : List Str) (sc : Scope) : List Expr → Bool
  | [] => true
  | .Constant (.str x) _ _ :: r => decide (x.length ≤ 1000) && partsB N sc r
  | .FormattedValue (.Name x _) c none _ :: r => decide (c = -1) && (N.drop 1).contains x && visB sc x && nmB x && partsB N sc r
  | _ => false
def assB (N : List Str) (sc : Scope) : List (Str × Nat) → List Stmt → Bool
  | [], [] => true
  | (f, j) :: l, .Assign [.Attribute (.Name x _) g _] (.Name y _) _ :: r => decide (N[0]? = some x) && visB sc x && nmB x && decide (f = g) && decide (N[j]? = some y) && visB sc y && nmB y && assB N sc l r
  | _, _ => false
def initB (N : List Str) (sc : Scope) (b : Str) (l : List (Str × Nat)) : List Stmt → Bool
  | .Expr (.Call (.Attribute (.Name b' _) m p2) [.Name x _, .JoinedStr ps _] [] pos) _ :: r => decide (b' = b) && decide (m = "__init__") && (p2.endLine == pos.line) && decide (N[0]? = some x) && visB sc x && nmB x && decide (2 ≤ ps.length) && decide (ps.length ≤ 20) && partsB N sc ps && assB N sc l r
  | _ => false
section
variable {X : Cx} {sc : Scope}
theorem parts_ok (hu : X.A.units + 65 < cLine) (vis : ∀ x, visB sc x = true → Vis X.env.scope x) : ∀ {ps : List Expr}, partsB X.N sc ps = true → ∃ ts, PJ X ps ts ∧ ts.length = ps.length ∧ ∀ (σ : L2.St), (∀ i x, 0 < i → X.N[i]? = some x → ∃ w, σ[i]? = some (some w) ∧ FmtV w) → ∀ t ∈ ts, TxtOk σ t
  | [], _ => ⟨[], .nil, rfl, fun _ _ t ht => absurd ht List.not_mem_nil⟩
  | e :: ps, h => by
    unfold partsB at h
    split at h
    · rename_i e0; cases e0
    · rename_i x k p r e0
      cases e0
      simp only [Bool.and_eq_true, decide_eq_true_eq] at h
      obtain ⟨ts, j, hl, q⟩ := parts_ok hu vis h.2
      refine ⟨_ :: ts, .cons pe_str j, by simp [hl], fun σ hσ t ht => ?_⟩
      rcases List.mem_cons.mp ht with rfl | ht
      · exact fun H Q k => k x (by omega)
      · exact q σ hσ t ht
    · rename_i x p c p2 r e0
      cases e0
      simp only [Bool.and_eq_true, decide_eq_true_eq, nmB, Bool.not_eq_true'] at h
      obtain ⟨⟨⟨⟨rfl, h1⟩, h2⟩, h3⟩, h4⟩ := h
      obtain ⟨ts, j, hl, q⟩ := parts_ok hu vis h4
      have hx : x ∈ X.N.drop 1 := by simpa using h1
      obtain ⟨i, hi⟩ := List.mem_iff_getElem?.mp hx
      rw [List.getElem?_drop] at hi
      refine ⟨_ :: ts, .cons (pe_fmtA hu (pe_var hi (vis x h2) h3.1.1 h3.1.2)) j, by simp [hl], fun σ hσ t ht => ?_⟩
      rcases List.mem_cons.mp ht with rfl | ht
      · obtain ⟨w, e1, e2⟩ := hσ (1 + i) x (by omega) hi
        exact fun H Q k => ⟨w, e1, e2, k⟩
      · exact q σ hσ t ht
    · cases h
theorem ass_ok (vis : ∀ x, visB sc x = true → Vis X.env.scope x) : ∀ {l : List (Str × Nat)} {r : List Stmt}, assB X.N sc l r = true → PSs X r (tAs X.K l)
  | [], r, h => by
    cases r with
    | nil => exact pss_nil
    | cons => simp [assB] at h
  | (f, j) :: l, r, h => by
    unfold assB at h
    split at h
    · rename_i e0; cases e0
    · rename_i f' j' l' x p g p' y p'' pos r' e0
      cases e0
      simp only [Bool.and_eq_true, decide_eq_true_eq, nmB, Bool.not_eq_true'] at h
      obtain ⟨⟨⟨⟨⟨⟨⟨h1, h2⟩, h3⟩, rfl⟩, h5⟩, h6⟩, h7⟩, h8⟩ := h
      exact pss_cons (ps_ost (pe_var h1 (vis x h2) h3.1.1 h3.1.2) (pe_var h5 (vis y h6) h7.1.1 h7.1.2)) (ass_ok vis h8)
    · cases h
end
/-- the promise of an exception's __init__ -/
def spI (K : PySem.W.Frag) (C : Addr) (l : List Str) : Sp := fun vs H Q _ => ∃ a ws, vs = .ref a :: ws ∧ ws.length = l.length ∧ H a = some (exo a C none) ∧ (∀ w ∈ ws, FmtV w) ∧ ∀ H2, InitAt a C H ((l.zip ws).reverse) H2 → Q .non H2
theorem start_at {N : List Str} {vs : List V} {i : Nat} {w : V} (h : vs[i]? = some w) : (L2.start N vs)[i]? = some (some w) := by
  unfold L2.start
  rw [List.getElem?_append_left (by rw [List.length_map]; exact (List.getElem?_eq_some_iff.mp h).1), List.getElem?_map, h]
  rfl
theorem init_fn {P : Program} {w : World} {K : PySem.W.Frag} {mg : Str → Option Value} {base : Heap} {k : Nat} {f : Addr} {x qual : Str} {st : Stmt} {fd : FuncData} {N : List Str} {b : Str} {B C : Addr} {l : List Str} (F : Fun K x qual st f fd) (S : FnScope N N (defScope st))
    (hb : initB N (defScope st) b (l.zipIdx 1) (defBody st) = true) (hN : N.length = l.length + 1) (hl : l ≠ []) (hl2 : l.length ≤ 20) (hm : mg b = some (.ref B)) (hgl : glB (defScope st) b = true) (hd : (b == ("__debug__" : Str)) = false) (TB : BaseInit K B) (T : OexC K C)
    (hf : ∀ f ∈ l, PySem.W.findIn K (.ref C) f = some none) : FnOk P w K mg base (L2.CX P w) (k + 1) f fd N (spI K C l) := by
  refine Fun.okX F S (fun vs H Q E ⟨a, ws, e, h1, _⟩ => by rw [e, List.length_cons, h1, hN]) fun cdv A outer s H vs Q E hr ⟨a, ws, ev, h1, h2, h3, h4⟩ => ?_
  subst ev
  generalize hX : cxOf (L2.CX P w) P w K mg base N qual (defScope st) f cdv A outer s H E = X
  have xN : X.N = N := by subst hX; rfl
  have xK : X.K = K := by subst hX; rfl
  have xm : X.mg = mg := by subst hX; rfl
  have vis : ∀ x, visB (defScope st) x = true → Vis X.env.scope x := fun x h => by
    subst hX
    unfold visB at h
    split at h
    · exact .inl ‹_›
    · exact .inr (.inl ‹_›)
    · exact .inr (.inr ‹_›)
    · cases h
  have gl : Gl X b := by
    subst hX
    unfold glB at hgl
    split at hgl
    · assumption
    · cases hgl
  have hu : X.A.units + 65 < cLine := by subst hX; have := hr.un; show (A.deeper _).units + 65 < cLine; omega
  clear hX
  unfold initB at hb
  split at hb
  · rename_i b' p1 m p2 x p3 ps p4 pos p5 r e0
    rw [e0]
    simp only [Bool.and_eq_true, decide_eq_true_eq, nmB, Bool.not_eq_true'] at hb
    obtain ⟨⟨⟨⟨⟨⟨⟨⟨⟨rfl, rfl⟩, b2⟩, b3⟩, b4⟩, b5⟩, b6⟩, b7⟩, b8⟩, b9⟩ := hb
    subst xN xK xm
    obtain ⟨ts, J, hts, hto⟩ := parts_ok hu vis b8
    match ps, b6, J with
    | [], b6, _ => simp at b6
    | [_], b6, _ => simp at b6
    | v1 :: v2 :: rest, b6, J =>
      refine ⟨_, pss_cons (ps_expr (pe_binit gl hm hd TB rfl (by simp) b2 (pa_cons (pe_var b3 (vis x b4) b5.1.1 b5.1.2) (pa_cons (pe_joined J) pa_nil (star_of rfl)) (star_of rfl))) (swaps_of rfl)) (ass_ok vis b9), ?_⟩
      have s0 : (L2.start X.N (V.ref a :: ws))[0]? = some (some (.ref a)) := start_at rfl
      refine ⟨.ref a, s0, ?_⟩
      refine joined_ok (hto _ fun i y hi hy => ?_) ?_ fun out => ⟨a, C, [.str out], rfl, by simp, T, h2, ?_⟩
      · have hlt : i < X.N.length := (List.getElem?_eq_some_iff.mp hy).1
        have hlt2 : i - 1 < ws.length := by omega
        refine ⟨ws[i - 1], start_at ?_, h3 _ (List.getElem_mem hlt2)⟩
        obtain ⟨j, rfl⟩ : ∃ j, i = j + 1 := ⟨i - 1, by omega⟩
        simp
      · rw [hts, sizeLine_eq]
        show 0 + _ ≤ _
        omega
      · refine tAs_ok T h2 s0 (ws := ws) (pre := []) (by rw [List.length_zipIdx, h1]) (fun i p w e1 e2 => ?_) (fun p hp => ?_) (by simp only [List.length_nil, List.length_zipIdx]; omega) (.inl ⟨rfl, rfl, h2⟩) fun H2 hi => h4 H2 ?_
        · rw [List.getElem?_zipIdx] at e1
          obtain ⟨g, eg, rfl⟩ := Option.map_eq_some_iff.mp e1
          refine start_at ?_
          show (V.ref a :: ws)[1 + i]? = some w
          rw [Nat.add_comm, List.getElem?_cons_succ]
          exact e2
        · refine hf p.1 ?_
          have := List.mem_map_of_mem (f := Prod.fst) hp
          rwa [List.zipIdx_map_fst] at this
        · rw [List.zipIdx_map_fst, List.append_nil] at hi
          exact hi
  · cases hb
end Z
end
section
set_option Elab.async false
set_option linter.all false
set_option maxRecDepth 100000
set_option maxHeartbeats 4000000
namespace Z
open PySem L2 PyProof.Rows

/-! ## raise, try -/
structure TabX (T : Tb) (N : Nm) (G : Gm) (P : Program) (w : World) (K : PySem.W.Frag) (mg : Str → Option Value) (base : Heap) (k : Nat) : Prop where
  ex : ∀ c l, G.exc c = some l → (l ≠ [] ∧ l.length ≤ 20) ∧ OexC K (N.cls c) ∧ ExcC K (N.cls c) ∧ XfC K (N.cls c) ∧ (∀ f ∈ l, PySem.W.findIn K (.ref (N.cls c)) (N.fld f) = some none) ∧
    ∃ x fI fd ps, T.cname c = some x ∧ PySem.W.findIn K (.ref (N.cls c)) "__init__" = some (some (.ref fI)) ∧ PySem.W.typeIn K (.ref fI) = some (.type "function") ∧ FnOk P w K mg base (L2.CX P w) k fI fd ps (spI K (N.cls c) (l.map N.fld)) ∧ Binds K fd ps []
  xis : ∀ c' x, T.xname c' = some x → ∃ v cv, RelV v cv ∧ (∀ u, RelV v u → u = cv) ∧ (mg x = some cv ∨ (mg x = none ∧ bootBuiltins x = some cv ∧ x ≠ "__name__")) ∧
    ∀ c l, G.exc c = some l → PySem.W.kitOne K (.ref (N.cls c)) cv = some (G.isx c c') ∧ PySem.W.exmOne K (.ref (N.cls c)) cv = some (G.isx c c')
  isn : mg "isinstance" = none
structure CxX (T : Tb) (N : Nm) (G : Gm) (C : Cl) (k : Nat) (nm : List Str) (X : Cx) (sc : Scope) (W : WX) : Prop where
  s : CxS T N G C k nm X sc W
  x : TabX T N G X.prog X.w X.K X.mg X.base k
section
variable {T : Tb} {N : Nm} {G : Gm} {C : Cl} {k : Nat} {nm : List Str} {X : Cx} {sc : Scope} {W : WX}
variable {es : List Expr} {aa : SA} {pos : Pos}
theorem passN {X : Cx} : Passes (L2.CX X.prog X.w) X (fun _ _ _ => False) := passL
theorem fmt_of {K ρ H d v} (r : Rep K ρ H d v) (h : fmtOk d = true) : FmtV v := by
  cases r <;> simp only [fmtOk, Bool.false_eq_true, decide_eq_true_eq] at h
  · trivial
  · exact h
  · exact h
theorem fmts_of {K ρ H} : ∀ {ds vs}, Reps K ρ H ds vs → ds.all fmtOk = true → ∀ w ∈ vs, FmtV w
  | _, _, .nil, _, w, hw => absurd hw List.not_mem_nil
  | _, _, .cons a b, h, w, hw => by
    simp only [List.all_cons, Bool.and_eq_true] at h
    rcases List.mem_cons.mp hw with rfl | hw
    · exact fmt_of a h.1
    · exact fmts_of b h.2 w hw
theorem fld_zip {N K ρ H} : ∀ {l : List Nat} {ds vs}, Reps K ρ H ds vs → FldR N K ρ H (l.zip ds) ((l.map N.fld).zip vs)
  | [], _, _, _ => .nil
  | i :: l, _, _, .nil => .nil
  | i :: l, _, _, .cons a b => .cons a (fld_zip b)
theorem FldR.append {N K ρ H} : ∀ {a b c d}, FldR N K ρ H a b → FldR N K ρ H c d → FldR N K ρ H (a ++ c) (b ++ d)
  | _, _, _, _, .nil, s => s
  | _, _, _, _, .cons x y, s => .cons x (FldR.append y s)
theorem FldR.reverse {N K ρ H} : ∀ {a b}, FldR N K ρ H a b → FldR N K ρ H a.reverse b.reverse
  | _, _, .nil => .nil
  | _, _, .cons x y => by
    rw [List.reverse_cons, List.reverse_cons]
    exact (FldR.reverse y).append (.cons x .nil)
theorem q_raise (c : CxX T N G C k nm X sc W) {cc : Nat} {x : Str} {p p2 : Pos} (h1 : T.cname cc = some x) (h2 : glB sc x = true) (h3 : nmB x = true) (hs : es.all noStar = true) (hne : es.isEmpty = false) (h0 : (G.exc cc).isSome = true) (ha : PA X es (tA N X.K W aa)) :
    PS X (.Raise (some (.Call (.Name x p) es [] pos)) none p2) (tS N X.K W fun σ h => (aa σ h).thenS σ fun ds h1 => match G.exc cc with
    | some l => if ds.all fmtOk && Nat.beq ds.length l.length then .exc cc (l.zip ds).reverse σ h1 else .bad
    | none => .bad) := by
  simp only [nmB, Bool.and_eq_true, Bool.not_eq_true'] at h3
  cases hex : G.exc cc with
  | none => rw [hex] at h0; cases h0
  | some l =>
    obtain ⟨z1, z2, z3, z4, z5, x', fI, fd, ps, y1, y2, y3, y4, y5⟩ := c.x.ex cc l hex
    have hm := c.s.c.tab.cn cc x h1
    cases es with
    | nil => cases hne
    | cons e es =>
      have hs' := hs
      simp only [List.all_cons, Bool.and_eq_true] at hs
      refine PS.imp (fun D σ H ⟨ρ, hh, σd, rel, en, q⟩ => ⟨ρ, hh, σd, rel, en, ResS.bindA q en fun ds h1 ρ1 H1 vs g r q1 => ?_⟩)
        (ps_raise c.s.c.calm c.s.c.tk (pmk_oex (dvs := []) z2 y2 y3 y4 c.s.c.room y5 .nil passN (c.s.c.gl x h2) hm ha h3.1.1 (star_of hs.1) (stars_of hs.2)))
      dsimp only at q1
      by_cases hc : (ds.all fmtOk && Nat.beq ds.length l.length) = true
      · rw [if_pos hc] at q1
        simp only [Bool.and_eq_true] at hc
        have hlen : vs.length = l.length := by rw [← r.length]; exact Nat.eq_of_beq_eq_true hc.2
        refine ⟨by omega, fun a ha => ⟨a, vs, by rw [List.append_nil], by rw [hlen, List.length_map], upd_same, fmts_of r hc.1, fun H2 hi => ⟨rfl, ?_⟩⟩⟩
        rcases hi with ⟨e1, _, _⟩ | ⟨_, d, hd, hda, e1, e2, e3⟩
        · exfalso
          have := congrArg List.length e1
          simp only [List.length_reverse, List.length_zip, List.length_map, List.length_nil] at this
          cases l with
          | nil => exact z1.1 rfl
          | cons i l => cases vs <;> simp at this hlen
        · have hd1 : H1 d = none := by rw [upd_ne hda] at hd; exact hd
          refine ⟨d, _, e1, e2, hd1, ?_⟩
          have eq : upd (del H2 a) d (.xd ((l.map N.fld).zip vs).reverse) = upd H1 d (.xd ((l.map N.fld).zip vs).reverse) := by
            funext b
            by_cases hb : b = d
            · rw [hb, upd_same, upd_same]
            · rw [upd_ne hb, upd_ne hb]
              by_cases hb2 : b = a
              · rw [hb2, del_same, ha]
              · rw [del_ne hb2, e3 b hb2 hb, upd_ne hb2]
          rw [eq]
          have g2 := Grow.side (u := .xd ((l.map N.fld).zip vs).reverse) g.rel hd1
          exact q1 ρ1 _ σ d _ g2 ((en.mon g.mon).mon g2.mon) upd_same ((fld_zip (r.mon g2.mon)).reverse)
      · rw [if_neg hc] at q1; exact q1.elim
end
end Z
end
section
set_option Elab.async false
set_option linter.all false
set_option maxRecDepth 100000
set_option maxHeartbeats 4000000
namespace Z
open PySem L2 PyProof.Rows

/-! ## the suite behind except -/
section
variable {T : Tb} {N : Nm} {G : Gm} {C : Cl} {k : Nat} {nm : List Str} {X : Cx} {sc : Scope} {W : WX}
variable {a : Addr} {oe : Obj} {d : Option Addr} {pn : List (Addr × Obj)} {c i : Nat} {l : List Nat}
/-- what is known in the suite -/
structure SuC (T : Tb) (N : Nm) (G : Gm) (nm : List Str) (X : Cx) (sc : Scope) (a : Addr) (oe : Obj) (d : Option Addr) (c i : Nat) (n : Str) (l : List Nat) : Prop where
  nmi : nm[i]? = some n
  xn : X.N = nm
  vi : visB sc n = true
  nb : nmB n = true
  vis : ∀ x, visB sc x = true → Vis X.env.scope x
  gl : ∀ x, glB sc x = true → Gl X x
  nf : ∀ i, T.fld i = N.fld i
  tx : TabX T N G X.prog X.w X.K X.mg X.base k
  he : G.exc c = some l
  hz : Zc (.ref (N.cls c)) d oe
  hf : ∃ vs, oe.data = .fields vs
/-- what stands there -/
def SuH (N : Nm) (X : Cx) (a : Addr) (d : Option Addr) (i : Nat) (l : List Nat) (fs : List (Nat × D)) (ρ : Rho) (h : Hs) (σ : L2.St) (H : Hp) : Prop :=
  σ[i]? = some (some (.ref a)) ∧ RelH N X.K ρ h H ∧ (∀ p ∈ fs, p.1 ∈ l) ∧ ∃ dd fv, d = some dd ∧ H dd = some (.xd fv) ∧ FldR N X.K ρ H fs fv
def tXi (N : Nm) (X : Cx) (a : Addr) (d : Option Addr) (i : Nat) (l : List Nat) (x : XI) : TE := fun σ H Q => ∃ fs ρ h r, SuH N X a d i l fs ρ h σ H ∧ xItems fs [x] = some [r] ∧ ∀ v, Rep X.K ρ H r v → Q v H
def tXis (N : Nm) (X : Cx) (a : Addr) (d : Option Addr) (i : Nat) (l : List Nat) (xs : List XI) : TA := fun σ H Q => ∃ fs ρ h ds, SuH N X a d i l fs ρ h σ H ∧ xItems fs xs = some ds ∧ ∀ vs, Reps X.K ρ H ds vs → Q vs H
def xiB (T : Tb) (n : Str) : XI → Expr → Bool
  | .fld f, .Attribute (.Name x _) g _ => decide (x = n) && decide (T.fld f = g)
  | .con d, .Constant cc _ _ => conB d cc
  | .con (.int j), .UnaryOp .USub (.Constant (.int m) _ _) _ => decide (j = -m)
  | _, _ => false
theorem noneEnv {K ρ H} {σ : L2.St} : EnvR K ρ H (List.replicate σ.length none) σ := by
  refine ⟨List.length_replicate, fun i d q => ?_⟩
  rw [List.getElem?_replicate] at q
  split at q <;> cases q
theorem fget_mem {f : Nat} {r : D} : ∀ {fs : List (Nat × D)}, fget fs f = some r → ∃ p ∈ fs, p.1 = f
  | [], e => by simp [fget] at e
  | (k, d) :: fs, e => by
    simp only [fget] at e
    by_cases h : Nat.beq k f = true
    · exact ⟨_, List.mem_cons_self, Nat.eq_of_beq_eq_true h⟩
    · rw [if_neg h] at e
      obtain ⟨p, h1, h2⟩ := fget_mem e
      exact ⟨p, List.mem_cons_of_mem _ h1, h2⟩
theorem con_pe {X : Cx} {dd : D} {cc : Const} {j : Nat} {pos : Pos} (h : conB dd cc = true) : ∃ v, (∀ K ρ H, Rep K ρ H dd v) ∧ PE X (.Constant cc j pos) (tC v) := by
  cases dd <;> cases cc <;> simp only [conB, Bool.false_eq_true, decide_eq_true_eq, beq_iff_eq] at h
  · exact ⟨_, fun _ _ _ => .non, pe_non⟩
  · subst h; exact ⟨_, fun _ _ _ => .bl _, pe_bl⟩
  · subst h; exact ⟨_, fun _ _ _ => .int _, pe_int⟩
  · subst h; exact ⟨_, fun _ _ _ => .str _, pe_str⟩
theorem suc_item {n : Str} (s : SuC (k := k) T N G nm X sc a oe d c i n l) {x : XI} {e : Expr} (h : xiB T n x e = true) : PE (X.suite a ((a, oe) :: pn)) e (tXi N X a d i l x) := by
  have nb := s.nb
  simp only [nmB, Bool.and_eq_true, Bool.not_eq_true'] at nb
  cases x with
  | fld f =>
    have key : ∃ p g p2, e = .Attribute (.Name n p) g p2 ∧ T.fld f = g := by
      unfold xiB at h
      split at h <;> simp only [reduceCtorEq, XI.fld.injEq, Bool.and_eq_true, Bool.false_eq_true, decide_eq_true_eq] at *
      subst_vars
      obtain ⟨rfl, h2⟩ := h
      exact ⟨_, _, _, rfl, h2⟩
    obtain ⟨p, g, p2, rfl, hg⟩ := key
    obtain ⟨_, _, _, xf, hno, _⟩ := s.tx.ex c l s.he
    rw [s.nf] at hg
    subst hg
    by_cases hl : f ∈ l
    · refine PE.imp (fun σ H Q z => ?_) (pe_xf xf (hno f hl) s.hz s.hf (pe_var (by rw [s.xn]; exact s.nmi) (s.vis _ s.vi) nb.1.1 nb.1.2))
      obtain ⟨fs, ρ, hh, r, ⟨h1, rel, h2, dd, fv, rfl, h4, h5⟩, h6, q⟩ := z
      simp only [xItems] at h6
      cases hr : fget fs f with
      | none => rw [hr] at h6; cases h6
      | some r0 =>
        rw [hr] at h6
        cases h6
        obtain ⟨v, e1, e2⟩ := h5.get hr
        exact ⟨_, h1, rfl, rfl, dd, fv, v, rfl, h4, e1, q v e2⟩
    · refine ⟨fun pins st σ H Q I z => ?_⟩
      obtain ⟨fs, ρ, hh, r, ⟨h1, rel, h2, _⟩, h6, q⟩ := z
      exfalso
      simp only [xItems] at h6
      cases hr : fget fs f with
      | none => rw [hr] at h6; cases h6
      | some r0 =>
        obtain ⟨p, e1, e2⟩ := fget_mem hr
        exact hl (e2 ▸ h2 p e1)
  | con dd =>
    have key : ∃ v, (∀ K ρ H, Rep K ρ H dd v) ∧ PE (X.suite a ((a, oe) :: pn)) e (tC v) := by
      unfold xiB at h
      split at h <;> simp only [reduceCtorEq, XI.con.injEq, Bool.false_eq_true] at *
      · subst_vars; exact con_pe h
      · subst_vars
        obtain rfl := of_decide_eq_true h
        exact ⟨_, fun _ _ _ => .int _, PE.imp (fun σ H Q q => ⟨_, rfl, q⟩) (pe_un un_neg pe_int)⟩
    obtain ⟨v, hv, p⟩ := key
    refine PE.imp (fun σ H Q z => ?_) p
    obtain ⟨fs, ρ, hh, r, ⟨h1, rel, h2, _⟩, h6, q⟩ := z
    simp only [xItems, Option.map_some, Option.some.injEq, List.cons.injEq, and_true] at h6
    subst h6
    exact q v (hv _ _ _)
def xisB (T : Tb) (n : Str) : List XI → List Expr → Bool
  | [], [] => true
  | x :: xs, e :: es => xiB T n x e && noStar e && xisB T n xs es
  | _, _ => false
theorem xItems_cons {fs : List (Nat × D)} {x : XI} {xs : List XI} {ds : List D} (h : xItems fs (x :: xs) = some ds) : ∃ r rs, ds = r :: rs ∧ xItems fs [x] = some [r] ∧ xItems fs xs = some rs := by
  cases x with
  | fld f =>
    simp only [xItems] at h ⊢
    cases h1 : fget fs f with
    | none => rw [h1] at h; cases h
    | some r =>
      rw [h1] at h
      cases h2 : xItems fs xs with
      | none => rw [h2] at h; cases h
      | some rs => rw [h2] at h; cases h; exact ⟨r, rs, rfl, rfl, rfl⟩
  | con d =>
    simp only [xItems, Option.map_some] at h ⊢
    cases h2 : xItems fs xs with
    | none => rw [h2] at h; cases h
    | some rs => rw [h2] at h; cases h; exact ⟨d, rs, rfl, rfl, rfl⟩
theorem suc_items {n : Str} (s : SuC (k := k) T N G nm X sc a oe d c i n l) : ∀ {xs : List XI} {es : List Expr}, xisB T n xs es = true → PA (X.suite a ((a, oe) :: pn)) es (tXis N X a d i l xs)
  | [], [], _ => PA.imp (fun σ H Q ⟨fs, ρ, hh, ds, _, h6, q⟩ => by cases h6; exact q [] .nil) pa_nil
  | [], _ :: _, h => by simp [xisB] at h
  | _ :: _, [], h => by simp [xisB] at h
  | x :: xs, e :: es, h => by
    simp only [xisB, Bool.and_eq_true] at h
    refine PA.imp (fun σ H Q ⟨fs, ρ, hh, ds, su, h6, q⟩ => ?_) (pa_cons (suc_item s h.1.1) (suc_items s h.2) (star_of h.1.2))
    obtain ⟨r, rs, rfl, e1, e2⟩ := xItems_cons h6
    exact ⟨fs, ρ, hh, r, su, e1, fun v rv => ⟨fs, ρ, hh, rs, su, e2, fun vs rvs => q _ (.cons rv rvs)⟩⟩
def xrB (T : Tb) (n : Str) : XR → Expr → Bool
  | .one x, e => xiB T n x e
  | .tup xs, .Tuple es _ _ => xisB T n xs es
  | .lst xs, .List es _ => xisB T n xs es
  | _, _ => false
/-- what is handed back -/
def tXr (N : Nm) (X : Cx) (a : Addr) (d : Option Addr) (i : Nat) (l : List Nat) (f : List (Nat × D) → Hs → RS) : TS := fun D σ H => ∃ fs ρ h, SuH N X a d i l fs ρ h σ H ∧ ∃ r h', f fs h = .rt r h' ∧ ∀ ρ' H' v, Grow N X.K ρ H ρ' h' H' → Rep X.K ρ' H' r v → D.rt v H'
theorem suc_ret {n : Str} (s : SuC (k := k) T N G nm X sc a oe d c i n l) {x : XR} {e : Expr} {pos : Pos} (h : xrB T n x e = true) : PS (X.suite a ((a, oe) :: pn)) (.Return (some e) pos) (tXr N X a d i l fun fs h => x.run fs h) := by
  cases x with
  | one x =>
    simp only [xrB] at h
    refine PS.imp (fun D σ H ⟨fs, ρ, hh, su, r, h', e1, q⟩ => ?_) (ps_ret (suc_item s h))
    simp only [XR.run] at e1
    split at e1
    · rename_i d0 e2
      cases e1
      exact ⟨fs, ρ, hh, _, su, e2, fun v rv => q ρ H v (.refl su.2.1) rv⟩
    · cases e1
  | tup xs =>
    cases e <;> simp only [xrB, Bool.false_eq_true] at h
    refine PS.imp (fun D σ H ⟨fs, ρ, hh, su, r, h', e1, q⟩ => ?_) (ps_ret (pe_tup (suc_items s h)))
    simp only [XR.run] at e1
    split at e1
    · rename_i ds e2
      split at e1
      · rename_i hlen
        cases e1
        exact ⟨fs, ρ, hh, _, su, e2, fun vs rv => ⟨by rw [← rv.length]; exact big_line (Nat.le_trans hlen (by decide)), fun p hp => let ⟨g, rp⟩ := Grow.tuple su.2.1 hp rv; q _ _ _ g rp⟩⟩
      · cases e1
    · cases e1
  | lst xs =>
    cases e <;> simp only [xrB, Bool.false_eq_true] at h
    refine PS.imp (fun D σ H ⟨fs, ρ, hh, su, r, h', e1, q⟩ => ?_) (ps_ret (pe_lst (suc_items s h)))
    simp only [XR.run] at e1
    split at e1
    · rename_i ds e2
      split at e1
      · rename_i hlen
        cases e1
        exact ⟨fs, ρ, hh, _, su, e2, fun vs rv => ⟨by rw [← rv.length]; exact big_line (Nat.le_trans hlen (by decide)), fun p hp =>
          have g := Grow.alloc (o := .lst ds) (u := .lst vs) su.2.1 hp fun m => ⟨vs, upd_same, rv.mon m⟩
          q _ _ _ g (.ref (if_pos rfl))⟩⟩
      · cases e1
    · cases e1
/-! ### isinstance of what was caught -/
def tIsAll (N : Nm) (G : Gm) (X : Cx) (a : Addr) (d : Option Addr) (c i : Nat) (l : List Nat) (cs : List Nat) : TT := fun σ H Q => ∃ fs ρ h, SuH N X a d i l fs ρ h σ H ∧ Q (cs.all (G.isx c)) H
def isB (T : Tb) (sc : Scope) (n : Str) (c : Nat) : Expr → Bool
  | .Call (.Name f _) [.Name x _, .Name y _] [] _ => decide (f = "isinstance") && glB sc f && decide (x = n) && decide (T.xname c = some y) && glB sc y && nmB y
  | _ => false
theorem suc_is {n : Str} (s : SuC (k := k) T N G nm X sc a oe d c i n l) {c' : Nat} {e : Expr} (h : isB T sc n c' e = true) : PT (X.suite a ((a, oe) :: pn)) e (tIsAll N G X a d c i l [c']) := by
  have nb := s.nb
  simp only [nmB, Bool.and_eq_true, Bool.not_eq_true'] at nb
  unfold isB at h
  split at h
  · rename_i f p1 x p2 y p3 pos
    simp only [Bool.and_eq_true, decide_eq_true_eq, nmB, Bool.not_eq_true', decide_eq_false_iff_not] at h
    obtain ⟨⟨⟨⟨⟨rfl, g1⟩, rfl⟩, g3⟩, g4⟩, g5⟩ := h
    obtain ⟨v, cv, rv, uv, hm, hk⟩ := s.tx.xis c' y g3
    obtain ⟨_, _, ec, _⟩ := s.tx.ex c l s.he
    have hp2 : PE (X.suite a ((a, oe) :: pn)) (.Name y p3) (tC v) := by
      rcases hm with hm | ⟨hm, hb, hn⟩
      · exact pe_glob (s.gl y g4) hm rv g5.1.1
      · exact pe_bltn (s.gl y g4) hm hb rv hn g5.1.1
    have hc : CallR (X.suite a ((a, oe) :: pn)) (.builtin "isinstance") (fun xs H Q => (∀ dd, d = some dd → ∃ fs, H dd = some (.xd fs)) ∧ rIsE X.K (N.cls c) a xs H Q) := fun pins st σ H xs us Q I r hh => call_isX ec s.hz s.hf pins st σ H xs us Q I hh.1 r hh.2
    refine PT.imp (fun σ H Q ⟨fs, ρ, hh, ⟨h1, rel, h2, dd, fv, h3, h4, h5⟩, q⟩ => ?_) (pt_val (pe_callB hc (s.gl _ g1) s.tx.isn boot_isinstance (pa_cons (pe_var (by rw [s.xn]; exact s.nmi) (s.vis _ s.vi) nb.1.1 nb.1.2) (pa_cons hp2 pa_nil (star_of rfl)) (star_of rfl)) (by decide) (by decide) (star_of rfl) (stars_of rfl)) (true_of rfl))
    refine ⟨_, h1, ⟨fun d' hd' => ?_, v, cv, G.isx c c', rfl, uv, (hk c l s.he).1, G.isx c c', rfl, ?_⟩⟩
    · rw [h3] at hd'; cases hd'; exact ⟨fv, h4⟩
    · simpa using q
  · cases h
def isAllB (T : Tb) (sc : Scope) (n : Str) : List Nat → List Expr → Bool
  | [c], [e] => isB T sc n c e
  | c :: c2 :: cs, e :: e2 :: es => isB T sc n c e && isAllB T sc n (c2 :: cs) (e2 :: es)
  | _, _ => false
theorem suc_isAll {n : Str} (s : SuC (k := k) T N G nm X sc a oe d c i n l) {pos : Pos} : ∀ {cs : List Nat} {es : List Expr}, isAllB T sc n cs es = true → PW (X.suite a ((a, oe) :: pn)) (.BoolOp .And es pos) (tIsAll N G X a d c i l cs)
  | [], _, h => by simp [isAllB] at h
  | [c'], [], h => by simp [isAllB] at h
  | [c'], [e], h => pw_and1 (suc_is s (by simpa [isAllB] using h))
  | [c'], _ :: _ :: _, h => by simp [isAllB] at h
  | c' :: c2 :: cs, [], h => by simp [isAllB] at h
  | c' :: c2 :: cs, [_], h => by simp [isAllB] at h
  | c' :: c2 :: cs, e :: e2 :: es, h => by
    simp only [isAllB, Bool.and_eq_true] at h
    refine PW.imp (fun σ H Q ⟨fs, ρ, hh, su, q⟩ => ?_) (pw_and (suc_is s h.1) (suc_isAll s h.2))
    refine ⟨fs, ρ, hh, su, ?_⟩
    rw [List.all_cons] at q
    simp only [List.all_cons, List.all_nil, Bool.and_true]
    cases hc : G.isx c c' with
    | false => rw [hc] at q; exact iteF q
    | true => rw [hc] at q; exact iteT ⟨fs, ρ, hh, su, q⟩
def testB (T : Tb) (sc : Scope) (n : Str) (cs : List Nat) : Expr → Bool
  | .BoolOp .And es _ => isAllB T sc n cs es
  | e => match cs with
    | [c] => isB T sc n c e
    | _ => false
theorem suc_test {n : Str} (s : SuC (k := k) T N G nm X sc a oe d c i n l) {cs : List Nat} {e : Expr} (h : testB T sc n cs e = true) : PT (X.suite a ((a, oe) :: pn)) e (tIsAll N G X a d c i l cs) := by
  unfold testB at h
  split at h
  · exact (suc_isAll s h).pt
  · split at h
    · exact suc_is s h
    · cases h
def suB (T : Tb) (sc : Scope) (n : Str) : Su → List Stmt → Bool
  | .ret x, [.Return (some e) _] => xrB T n x e
  | .iff cs x su, .If t [.Return (some e) _] [] _ :: r => testB T sc n cs t && xrB T n x e && suB T sc n su r
  | _, _ => false
theorem suc_su {n : Str} (s : SuC (k := k) T N G nm X sc a oe d c i n l) : ∀ {su : Su} {r : List Stmt}, suB T sc n su r = true → PSs (X.suite a ((a, oe) :: pn)) r (tXr N X a d i l fun fs h => su.run G c fs h)
  | .ret x, r, h => by
    unfold suB at h
    split at h <;> simp only [reduceCtorEq, Su.ret.injEq, Bool.false_eq_true] at *
    subst_vars
    exact PSs.imp (fun D σ H z => z) (pss_one (suc_ret s h))
  | .iff cs x su, r, h => by
    unfold suB at h
    split at h <;> simp only [reduceCtorEq, Su.iff.injEq, Bool.false_eq_true, Bool.and_eq_true] at *
    rename_i hh
    obtain ⟨rfl, rfl, rfl⟩ := hh
    refine PSs.imp (fun D σ H ⟨fs, ρ, hh, sh, r, h', e1, q⟩ => ?_) (pss_cons (ps_if (suc_test s h.1.1) (pss_one (suc_ret s h.1.2)) pss_nil) (suc_su s h.2))
    refine ⟨fs, ρ, hh, sh, ?_⟩
    simp only [Su.run] at e1
    cases hc : List.all cs (G.isx c) with
    | true => rw [hc, if_pos rfl] at e1; exact iteT ⟨fs, ρ, hh, sh, r, h', e1, q⟩
    | false => rw [hc, if_neg (by simp)] at e1; exact iteF ⟨fs, ρ, hh, sh, r, h', e1, q⟩
end
end Z
end
section
set_option Elab.async false
set_option linter.all false
set_option maxRecDepth 100000
set_option maxHeartbeats 4000000
namespace Z
open PySem L2 PyProof.Rows
section
variable {T : Tb} {N : Nm} {G : Gm} {C : Cl} {k : Nat} {nm : List Str} {X : Cx} {sc : Scope} {W : WX}
theorem xr_is (fs : List (Nat × D)) (h : Hs) (x : XR) : (∃ r h', x.run fs h = .rt r h') ∨ x.run fs h = .bad := by
  cases x <;> unfold XR.run <;> repeat' split
  all_goals first | exact .inr rfl | exact .inl ⟨_, _, rfl⟩
theorem su_is (c : Nat) (fs : List (Nat × D)) (h : Hs) : ∀ su : Su, (∃ r h', su.run G c fs h = .rt r h') ∨ su.run G c fs h = .bad
  | .ret x => xr_is fs h x
  | .iff cs x s => by
    unfold Su.run
    split
    · exact xr_is fs h x
    · exact su_is c fs h s
theorem q_try (c : CxX T N G C k nm X sc W) {b : List Stmt} {fx : SX} {cc i : Nat} {x n : Str} {np pos pos' : Pos} {b0 : Stmt} {suite : List Stmt} {su : Su} (h1 : T.xname cc = some x) (h2 : glB sc x = true) (h3 : nmB x = true)
    (hi : nm[i]? = some n) (hl : sc.names.lookup n = some .local) (hn : nmB n = true) (hb : ∀ (X' : Cx) (W' : WX), X'.K = X.K → CxX T N G C k nm X' sc W' → PSs X' b (tS N X'.K W' fx)) (hs : suB T sc n su (b0 :: suite) = true) :
    PS X (.Try b [.ExceptHandler (some (.Name x np)) (some n) (b0 :: suite) pos'] [] [] pos) (tS N X.K W fun σ h => match fx σ h with
    | .exc c' fs σ' h' => if excOk G c' fs && decide (i < σ'.length) then (if G.isx c' cc then su.run G c' fs h' else .exc c' fs σ' h') else .bad
    | r => r) := by
  simp only [nmB, Bool.and_eq_true, Bool.not_eq_true'] at h3
  obtain ⟨v, cv, rv, uv, hm, hk⟩ := c.x.xis cc x h1
  have hvis : visB sc n = true := by unfold visB; rw [hl]
  refine PS.imp (fun D σ H ⟨ρ, hh, σd, rel, en, q⟩ => ⟨ρ, hh, σd, rel, en, ?_⟩)
    (ps_try_as (tb := fun W' => tS N X.K W' fx) (ts := fun a cls d D σ H => ∃ c' l, cls = .ref (N.cls c') ∧ G.exc c' = some l ∧ tXr N X a d i l (fun fs h => su.run G c' fs h) D σ H) (Wout := W) c.s.stk c.s.frm c.s.c.nd (by rw [c.s.c.nm]; exact hi) (c.s.lcl n hl)
      ⟨c.s.c.gl x h2, h3.1.1, hm⟩ c.s.c.tk (fun W' pn xe tk hp => ?_) fun a oe cls d pn hz hf => ?_)
  rotate_left 2
  · cases hx : fx σd hh with
    | nx => simp only [hx] at q; exact q
    | rt => simp only [hx] at q; exact q
    | bk => simp only [hx] at q; exact q
    | ct => simp only [hx] at q; exact q
    | bad => simp only [hx] at q; exact q
    | exc c' fs σ' h' =>
      simp only [hx] at q
      by_cases ho : (excOk G c' fs && decide (i < σ'.length)) = true
      · rw [if_pos ho] at q
        simp only [Bool.and_eq_true, decide_eq_true_eq] at ho
        obtain ⟨ho, hlt⟩ := ho
        unfold excOk at ho
        cases he : G.exc c' with
        | none => rw [he] at ho; cases ho
        | some l =>
          rw [he] at ho
          intro ρ1 H1 σ1 dd fv g e1 hdd hfv
          refine ⟨G.isx c' cc, (hk c' l he).2, fun hb a ha => ?_, fun hb => ?_⟩
          · rw [if_pos hb] at q
            rcases su_is (G := G) c' fs h' su with ⟨r, h2, e2⟩ | e2
            · rw [e2] at q
              refine ⟨c', l, rfl, he, fs, ρ1, h', ⟨?_, g.rel, fun p hp => ?_, dd, fv, rfl, hdd, hfv⟩, r, h2, e2, fun ρ2 H2 v g2 rp => q ρ2 H2 v (g.trans g2) rp⟩
              · rw [List.getElem?_set_self (by rw [← e1.1]; exact hlt)]
              · have := List.all_eq_true.mp ho p hp
                simpa using this
            · rw [e2] at q; exact q.elim
          · rw [if_neg (by rw [hb]; simp)] at q
            exact q ρ1 H1 σ1 dd fv g e1 hdd hfv
      · rw [if_neg ho] at q; exact q.elim
  · refine hb (X.tr pn xe) W' rfl ⟨⟨⟨c.s.c.tab, c.s.c.nm, c.s.c.nd, c.s.c.calm, c.s.c.room, c.s.c.gd, c.s.c.vis, c.s.c.gl, c.s.c.loc, c.s.c.fre, tk⟩, hp, c.s.lcl, c.s.kind, c.s.stk, c.s.frm⟩, c.x⟩
  · refine ⟨fun pins s σ H D I ⟨c', l, e1, he, z⟩ => ?_⟩
    subst e1
    have S : SuC (k := k) T N G nm X sc a oe d c' i n l := ⟨hi, c.s.c.nm, hvis, hn, c.s.c.vis, c.s.c.gl, c.s.c.tab.nf, c.x, he, hz, hf⟩
    exact (suc_su S hs).run pins s σ H D I z
end
/-! ## the check: statements -/
section
variable (T : Tb) (G : Gm) (nm : List Str)
def isLocal (sc : Scope) (x : Str) : Bool := decide (sc.names.lookup x = some .local)
/-- x = [..] -/
def chkLc (sc : Scope) (x : Str) (py : Pos) : E → Expr → Bool
  | .lc it tg own cond elt, .ListComp eelt [⟨tge, iter, ifs, 0⟩] scope pos => isLocal sc x && (py.line == pos.line) && !(scope.names.any fun (n, k) => n == x && (k == .local || k == .cell)) &&
      blkB nm sc scope own && tg.slots.all (fun i => own.contains i) && chkTg nm scope tg tge && foldB iter && truO cond && chkI T G nm sc it tge iter && chkIfs T G nm scope cond ifs && chkE T G nm scope elt eelt
  | _, _ => false
def tgE1 : Expr → Bool
  | .Tuple _ _ _ => true
  | _ => false
mutual
def chkS (sc : Scope) : S → Stmt → Bool
  | .set i e => fun st => match st with
    | .Assign [.Name x py] ex _ => decide (nm[i]? = some x) && locB sc x && ((plainE ex && chkE T G nm sc e ex) || chkLc T G nm sc x py e ex)
    | _ => false
  | .unp l e => fun st => match st with
    | .Assign [.Tuple a b p] ex _ => chkTg nm sc (.tp l) (.Tuple a b p) && noTup ex && plainE ex && chkE T G nm sc e ex
    | _ => false
  | .setF o f e => fun st => match st with
    | .Assign [.Attribute eo x _] ex _ => decide (T.fld f = x) && plainE ex && chkE T G nm sc o eo && chkE T G nm sc e ex
    | _ => false
  | .setI o i e => fun st => match st with
    | .Assign [.Subscript eo ei _] ex _ => plainE ei && plainE ex && noTup ex && chkE T G nm sc o eo && chkE T G nm sc i ei && chkE T G nm sc e ex
    | _ => false
  | .aug i o e => fun st => match st with
    | .AugAssign (.Name x _) op ex _ => augB o op && decide (nm[i]? = some x) && locB sc x && chkE T G nm sc e ex
    | _ => false
  | .augF a f o e => fun st => match st with
    | .AugAssign (.Attribute ea x _) op ex _ => augB o op && decide (T.fld f = x) && chkE T G nm sc a ea && chkE T G nm sc e ex
    | _ => false
  | .expr e => fun st => match st with
    | .Expr ex _ => plainE ex && chkE T G nm sc e ex
    | _ => false
  | .ret e => fun st => match st with
    | .Return (some ex) _ => chkE T G nm sc e ex
    | _ => false
  | .retN => fun st => match st with
    | .Return none _ => true
    | _ => false
  | .pass => fun st => match st with
    | .Pass _ => true
    | .Expr (.Constant (.str _) _ _) _ => true
    | _ => false
  | .brk => fun st => match st with
    | .Break _ => true
    | _ => false
  | .cnt => fun st => match st with
    | .Continue _ => true
    | _ => false
  | .cond c t e => fun st => match st with
    | .If ec et ee _ => truB c && chkE T G nm sc c ec && chkSs sc t et && chkSs sc e ee
    | _ => false
  | .whl c b => fun st => match st with
    | .While ec eb [] _ => truB c && chkE T G nm sc c ec && chkSs sc b eb
    | _ => false
  | .each tg it b => fun st => match st with
    | .For tge iter eb [] _ => chkTg nm sc tg tge && foldB iter && chkI T G nm sc it tge iter && chkSs sc b eb
    | _ => false
  | .raise_ c es => fun st => match st with
    | .Raise (some (.Call (.Name x _) l [] _)) none _ => decide (T.cname c = some x) && glB sc x && nmB x && l.all noStar && !l.isEmpty && (G.exc c).isSome && chkAs T G nm sc es l
    | _ => false
  | .try_ b c i su => fun st => match st with
    | .Try eb [.ExceptHandler (some (.Name x _)) (some n) (b0 :: suite) _] [] [] _ => decide (T.xname c = some x) && glB sc x && nmB x && decide (nm[i]? = some n) && isLocal sc n && nmB n && chkSs sc b eb && suB T sc n su (b0 :: suite)
    | _ => false
  | .any => fun _ => true
def chkSs (sc : Scope) : Ss → List Stmt → Bool
  | .nil, [] => true
  | .cons s r, x :: l => chkS sc s x && chkSs sc r l
  | _, _ => false
end
end
end Z
end
section
set_option Elab.async false
set_option linter.all false
set_option maxRecDepth 100000
set_option maxHeartbeats 4000000
namespace Z
open PySem L2 PyProof.Rows
section
variable {T : Tb} {N : Nm} {G : Gm} {C : Cl} {k : Nat} {nm : List Str}
theorem q_any {X : Cx} {W : WX} {st : Stmt} : PS X st (tS N X.K W fun _ _ => .bad) := ⟨fun pins s σ H D I ⟨_, _, _, _, _, q⟩ => q.elim⟩
theorem lc_set {X : Cx} {sc : Scope} {W : WX} (c : CxX T N G C k nm X sc W) {i : Nat} {x : Str} {py pos : Pos} {e : E} {ex : Expr} (h1 : nm[i]? = some x) (h : chkLc T G nm sc x py e ex = true) :
    PS X (.Assign [.Name x py] ex pos) (tS N X.K W fun σ h => ((evE G C e).1 σ h).thenS σ fun d h1 => .nx (σ.set i (some d)) h1) := by
  unfold chkLc at h
  split at h
  · rename_i it tg own cond elt eelt tge iter ifs scope p2
    simp only [Bool.and_eq_true, Bool.not_eq_true'] at h
    obtain ⟨⟨⟨⟨⟨⟨⟨⟨⟨⟨g1, g2⟩, g3⟩, b1⟩, b2⟩, b3⟩, b4⟩, b5⟩, b6⟩, b7⟩, b8⟩ := h
    have hl : sc.names.lookup x = some .local := of_decide_eq_true g1
    refine PS.imp (fun D σ H ⟨ρ, hh, σd, rel, en, q⟩ => ?_) (q_setLc (fi := evI G C it) (ft := (evO G C cond).2) (fe := (evE G C elt).1) c.s.c c.s.kind (c.s.lcl x hl) h1 b1 g2 g3
      (fun j hj => by have := List.all_eq_true.mp b2 j hj; simpa using this) (sndI it c.s.c b6) b3 (fun X' e' c' => sndIf cond c' b5 b7) (fun X' e' c' => (sndE elt c' b8).pe) b4)
    simp only [evE] at q
    exact ⟨ρ, hh, σd, rel, en, ResS.bindE q en fun d h1 ρ1 H1 v g r q1 => q1 ρ1 H1 _ (.refl g.rel) ((en.mon g.mon).set i r)⟩
  · cases h
mutual
theorem sndS : ∀ (s : S) {X : Cx} {sc : Scope} {W : WX} (c : CxX T N G C k nm X sc W) {st : Stmt}, chkS T G nm sc s st = true → PS X st (tS N X.K W (evS G C s))
  | .set i e, X, sc, W, c, st, h => by
    unfold chkS at h
    split at h <;> simp only [Bool.and_eq_true, Bool.or_eq_true, Bool.false_eq_true, decide_eq_true_eq] at h
    simp only [evS]
    rcases h.2 with h2 | h2
    · exact q_set c.s h.1.1 h.1.2 h2.1 (sndE e c.s.c h2.2).pe
    · exact lc_set c h.1.1 h2
  | .unp l e, X, sc, W, c, st, h => by
    unfold chkS at h
    split at h <;> simp only [Bool.and_eq_true, Bool.false_eq_true, decide_eq_true_eq] at h
    simp only [evS]
    exact q_asg c.s h.1.1.1 h.1.1.2 h.1.2 rfl (sndE e c.s.c h.2).pe
  | .setF o f e, X, sc, W, c, st, h => by
    unfold chkS at h
    split at h <;> simp only [Bool.and_eq_true, Bool.false_eq_true, decide_eq_true_eq] at h
    simp only [evS]
    exact q_setF c.s h.1.1.1 h.1.1.2 (sndE o c.s.c h.1.2).pe (sndE e c.s.c h.2).pe
  | .setI o i e, X, sc, W, c, st, h => by
    unfold chkS at h
    split at h <;> simp only [Bool.and_eq_true, Bool.false_eq_true, decide_eq_true_eq] at h
    simp only [evS]
    exact q_setI c.s h.1.1.1.1.1 h.1.1.1.1.2 (sndE o c.s.c h.1.1.2).pe (sndE i c.s.c h.1.2).pe (sndE e c.s.c h.2).pe h.1.1.1.2
  | .aug i o e, X, sc, W, c, st, h => by
    unfold chkS at h
    split at h <;> simp only [Bool.and_eq_true, Bool.false_eq_true, decide_eq_true_eq] at h
    simp only [evS]
    exact q_aug c.s h.1.1.1 h.1.1.2 h.1.2 (sndE e c.s.c h.2).pe
  | .augF a f o e, X, sc, W, c, st, h => by
    unfold chkS at h
    split at h <;> simp only [Bool.and_eq_true, Bool.false_eq_true, decide_eq_true_eq] at h
    simp only [evS]
    exact q_augF c.s h.1.1.1 h.1.1.2 (sndE a c.s.c h.1.2).pe (sndE e c.s.c h.2).pe
  | .expr e, X, sc, W, c, st, h => by
    unfold chkS at h
    split at h <;> simp only [Bool.and_eq_true, Bool.false_eq_true, decide_eq_true_eq] at h
    simp only [evS]
    exact q_expr h.1 (sndE e c.s.c h.2).pe
  | .ret e, X, sc, W, c, st, h => by
    unfold chkS at h
    split at h
    · simp only [evS]
      exact q_ret (sndE e c.s.c h).pe
    · cases h
  | .retN, X, sc, W, c, st, h => by
    unfold chkS at h
    split at h
    · simp only [evS]
      exact q_retN
    · cases h
  | .pass, X, sc, W, c, st, h => by
    unfold chkS at h
    split at h
    · simp only [evS]
      exact q_pass
    · simp only [evS]
      exact q_doc
    · cases h
  | .brk, X, sc, W, c, st, h => by
    unfold chkS at h
    split at h
    · simp only [evS]
      exact q_brk
    · cases h
  | .cnt, X, sc, W, c, st, h => by
    unfold chkS at h
    split at h
    · simp only [evS]
      exact q_cnt
    · cases h
  | .cond cc t e, X, sc, W, c, st, h => by
    unfold chkS at h
    split at h <;> simp only [Bool.and_eq_true, Bool.false_eq_true, decide_eq_true_eq] at h
    simp only [evS]
    exact q_cond ((sndE cc c.s.c h.1.1.2).pt h.1.1.1) (sndSs t c h.1.2) (sndSs e c h.2)
  | .whl cc b, X, sc, W, c, st, h => by
    unfold chkS at h
    split at h <;> simp only [Bool.and_eq_true, Bool.false_eq_true, decide_eq_true_eq] at h
    simp only [evS]
    exact q_whl c.s ((sndE cc c.s.c h.1.2).pt h.1.1) (sndSs b c h.2)
  | .each tg it b, X, sc, W, c, st, h => by
    unfold chkS at h
    split at h <;> simp only [Bool.and_eq_true, Bool.false_eq_true, decide_eq_true_eq] at h
    simp only [evS]
    exact q_each c.s h.1.1.1 h.1.1.2 (sndI it c.s.c h.1.2) (sndSs b c h.2)
  | .raise_ cc es, X, sc, W, c, st, h => by
    unfold chkS at h
    split at h <;> simp only [Bool.and_eq_true, Bool.false_eq_true, decide_eq_true_eq, Bool.not_eq_true'] at h
    simp only [evS]
    exact q_raise c h.1.1.1.1.1.1 h.1.1.1.1.1.2 h.1.1.1.1.2 h.1.1.1.2 h.1.1.2 h.1.2 (sndAs es c.s.c h.2)
  | .try_ b cc i su, X, sc, W, c, st, h => by
    unfold chkS at h
    split at h <;> simp only [Bool.and_eq_true, Bool.false_eq_true, decide_eq_true_eq, Bool.not_eq_true'] at h
    simp only [evS]
    exact q_try c h.1.1.1.1.1.1.1 h.1.1.1.1.1.1.2 h.1.1.1.1.1.2 h.1.1.1.1.2 (of_decide_eq_true h.1.1.1.2) h.1.1.2 (fun X' W' e' c' => sndSs b c' h.1.2) h.2
  | .any, X, sc, W, c, st, h => by
    simp only [evS]
    exact q_any
theorem sndSs : ∀ (s : Ss) {X : Cx} {sc : Scope} {W : WX} (c : CxX T N G C k nm X sc W) {st : List Stmt}, chkSs T G nm sc s st = true → PSs X st (tS N X.K W (evSs G C s))
  | .nil, X, sc, W, c, st, h => by
    cases st <;> simp only [chkSs, Bool.false_eq_true] at h
    simp only [evSs]
    exact q_nilS
  | .cons s r, X, sc, W, c, st, h => by
    cases st <;> simp only [chkSs, Bool.false_eq_true, Bool.and_eq_true] at h
    simp only [evSs]
    exact q_consS (sndS s c h.1) (sndSs r c h.2)
end
end
end Z
end
section
set_option Elab.async false
set_option linter.all false
set_option maxRecDepth 100000
set_option maxHeartbeats 1000000
namespace Z
open PySem L2 PyProof.Rows

/-! ## the defs of the text keep what the evaluator tells -/
structure Lib (T : Tb) (N : Nm) (G : Gm) (F : Nat → Option Fn) (P : Program) (w : World) (K : PySem.W.Frag) (mg : Str → Option Value) (base : Heap) : Prop where
  row : ∀ f r, F f = some r → ∃ a fd ps nm x qual params st, FunD K x qual params (defBody st) (defScope st) [] [] a fd ∧ FnScope nm ps (defScope st) ∧ r.np = ps.length ∧ r.ns = nm.length ∧ chkSs T G nm (defScope st) r.body (defBody st) = true ∧ Binds K fd ps [] ∧
    (∀ y, T.fname f = some y → mg y = some (.ref a) ∧ PySem.W.keepIn K (.ref a) = true) ∧ (∀ c m, G.meth c m = some f → Cls K (N.cls c) ∧ Meth K (N.cls c) (T.mname m) a) ∧ (∀ c, G.init c = some f → Mk K (N.cls c) a)
  np : ∀ f r, F f = some r → G.np f = r.np
  fnD : ∀ f x, T.fname f = some x → ∃ r, F f = some r
  meD : ∀ c m f, G.meth c m = some f → ∃ r, F f = some r
  inD : ∀ c f, G.init c = some f → ∃ r, F f = some r
  mf : ∀ m i, N.fld i ≠ T.mname m
  fld : ∀ c f, G.hasF c f = true → Cls K (N.cls c) ∧ NoAttr K (N.cls c) (N.fld f)
  cn : ∀ c x, T.cname c = some x → mg x = some (.ref (N.cls c))
  glo : ∀ g x, T.gname g = some x → ∃ u v, mg x = some u ∧ RelV v u ∧ ∀ ρ H, Rep K ρ H (G.glob g) v
  nf : ∀ i, T.fld i = N.fld i
  blt : ∀ b : Blt, mg b.name = none
  rng : mg "range" = none
  enm : mg "enumerate" = none
  tx : ∀ k, 1 ≤ k → TabX T N G P w K mg base k
section
variable {T : Tb} {N : Nm} {G : Gm} {F : Nat → Option Fn} {P : Program} {w : World} {K : PySem.W.Frag} {mg : Str → Option Value} {base : Heap}
/-- a def with its place -/
structure At (N : Nm) (T : Tb) (G : Gm) (K : PySem.W.Frag) (mg : Str → Option Value) (f : Nat) (np : Nat) (a : Addr) (fd : FuncData) (ps : List Str) : Prop where
  len : ps.length = np
  bind : Binds K fd ps []
  fn : ∀ y, T.fname f = some y → mg y = some (.ref a) ∧ PySem.W.keepIn K (.ref a) = true
  me : ∀ c m, G.meth c m = some f → Cls K (N.cls c) ∧ Meth K (N.cls c) (T.mname m) a
  ini : ∀ c, G.init c = some f → Mk K (N.cls c) a
def LvlOk (T : Tb) (N : Nm) (G : Gm) (F : Nat → Option Fn) (P : Program) (w : World) (K : PySem.W.Frag) (mg : Str → Option Value) (base : Heap) (n : Nat) : Prop :=
  ∀ f r, F f = some r → ∃ a fd ps, At N T G K mg f r.np a fd ps ∧ FnG P w K mg base (2 * n + 1) a fd ps (spF N K (callN G F n f) r.np)
theorem Lib.tab (L : Lib T N G F P w K mg base) {n : Nat} (ih : LvlOk T N G F P w K mg base n) : Tab T N G (callN G F n) P w K mg base (2 * n + 1) where
  fn := fun f x h => by
    obtain ⟨r, hr⟩ := L.fnD f x h
    obtain ⟨a, fd, ps, A, g⟩ := ih f r hr
    have e := L.np f r hr
    exact ⟨a, fd, ps, by rw [e]; exact A.len, by rw [e]; exact g, (A.fn x h).1, (A.fn x h).2, A.bind⟩
  meth := fun c m f h => by
    obtain ⟨r, hr⟩ := L.meD c m f h
    obtain ⟨a, fd, ps, A, g⟩ := ih f r hr
    have e := L.np f r hr
    exact ⟨a, fd, ps, by rw [e]; exact A.len, by rw [e]; exact g, (A.me c m h).1, (A.me c m h).2, A.bind⟩
  mf := L.mf
  fld := L.fld
  init := fun c f h => by
    obtain ⟨r, hr⟩ := L.inD c f h
    obtain ⟨a, fd, ps, A, g⟩ := ih f r hr
    have e := L.np f r hr
    exact ⟨a, fd, ps, by rw [e]; exact A.len, by rw [e]; exact g, A.ini c h, A.bind⟩
  cn := L.cn
  glo := L.glo
  nf := L.nf
  blt := L.blt
  rng := L.rng
  enm := L.enm
theorem startR {K ρ H} {nm : List Str} {ds : List D} {vs : List V} (r : Reps K ρ H ds vs) : EnvR K ρ H (startD nm.length ds) (L2.start nm vs) := by
  have hl := r.length
  refine ⟨by unfold startD L2.start; simp [hl], fun i d q => ?_⟩
  unfold startD at q
  by_cases hi : i < ds.length
  · rw [List.getElem?_append_left (by simpa using hi), List.getElem?_map] at q
    cases e : ds[i]? with
    | none => rw [e] at q; cases q
    | some d' =>
      rw [e] at q
      cases q
      obtain ⟨v, h1, h2⟩ := r.get e
      exact ⟨v, start_at h1, h2⟩
  · rw [List.getElem?_append_right (by simpa using Nat.le_of_not_lt hi), List.getElem?_replicate] at q
    split at q <;> cases q
theorem cxt_of {k : Nat} {C : Cl} {nm ps : List Str} {qual : Str} {sc : Scope} {f : Addr} {cd : Value} {A : Around} {outer : List Env} {s : Shared} {H : Hp} {E : XK} (S : FnScope nm ps sc) (tab : Tab T N G C P w K mg base k) (tx : TabX T N G P w K mg base k)
    (room : Room (k + 1) (A.deeper (envOfC qual sc s.heap.objs.size f cd))) (gd : (A.deeper (envOfC qual sc s.heap.objs.size f cd)).guards = some []) :
    CxX T N G C k nm (cxOf (L2.CX P w) P w K mg base nm qual sc f cd A outer s H E) sc (fun cls d _ H => E cls d H) := by
  refine ⟨⟨⟨tab, rfl, S.nd, rfl, room, gd, fun x h => ?_, fun x h => ?_, fun x h => ?_, fun x h => ?_, takes_of rfl rfl rfl rfl⟩, passes_of rfl, fun x h => h, S.kind, rfl, rfl⟩, tx⟩
  · unfold visB at h
    split at h
    · exact .inl ‹_›
    · exact .inr (.inl ‹_›)
    · exact .inr (.inr ‹_›)
    · cases h
  · unfold glB at h
    split at h
    · assumption
    · cases h
  · unfold locB at h
    split at h
    · exact ⟨.inl ‹_›, .inl rfl⟩
    · exact ⟨.inr ‹_›, .inl rfl⟩
    · cases h
  · unfold freB at h
    split at h
    · exact .inl ‹_›
    · exact .inr ‹_›
    · cases h
theorem run_res {n : Nat} {C : Cl} {r : Fn} {ρ : Rho} {H : Hp} {h : Hs} {ds : List D} {Q : VK} {E : XK} {nm : List Str} {vs : List V} (e : r.ns = nm.length) (rel : RelH N K ρ h H) (rs : Reps K ρ H ds vs)
    (q : ResE N K (fun c d _ H => E c d H) ρ H [] (runFn G C r ds h) Q) : tS N K (fun cls d _ H => E cls d H) (evSs G C r.body) { nx := fun _ H' => Q .non H', rt := Q } (L2.start nm vs) H := by
  refine ⟨ρ, h, startD r.ns ds, rel, by rw [e]; exact startR rs, ?_⟩
  unfold runFn at q
  cases hx : evSs G C r.body (startD r.ns ds) h with
  | nx => rw [hx] at q; exact fun ρ' H' σ' g _ => q ρ' H' _ g .non
  | rt => rw [hx] at q; exact q
  | bk => rw [hx] at q; exact q.elim
  | ct => rw [hx] at q; exact q.elim
  | exc => rw [hx] at q; exact fun ρ' H' σ' dd fv g _ a b => q ρ' H' dd fv g a b
  | bad => rw [hx] at q; exact q.elim
theorem callN_res {n f : Nat} {r : Fn} {ρ : Rho} {H : Hp} {h : Hs} {ds : List D} {Q : VK} {E : XK} (e : F f = some r) (q : ResE N K (fun c d _ H => E c d H) ρ H [] (callN G F (n + 1) f ds h) Q) :
    ds.length = r.np ∧ ResE N K (fun c d _ H => E c d H) ρ H [] (runFn G (callN G F n) r ds h) Q := by
  unfold callN at q
  rw [e] at q
  dsimp only at q
  by_cases hb : Nat.beq ds.length r.np = true
  · rw [if_pos hb] at q
    exact ⟨Nat.eq_of_beq_eq_true hb, q⟩
  · rw [if_neg hb] at q; exact q.elim
theorem Lib.lvl (L : Lib T N G F P w K mg base) : ∀ n, LvlOk T N G F P w K mg base n
  | 0 => fun f r hr => by
    obtain ⟨a, fd, ps, nm, x, qual, params, st, FF, S, e1, e2, hc, hb, h1, h2, h3⟩ := L.row f r hr
    exact ⟨a, fd, ps, ⟨e1.symm, hb, h1, h2, h3⟩, fun vs H Q E ⟨_, _, _, _, _, _, q⟩ => q.elim, fun A outer s H args us vs Q E _ _ _ _ _ ⟨_, _, _, _, _, _, q⟩ => q.elim⟩
  | n + 1 => fun f r hr => by
    obtain ⟨a, fd, ps, nm, x, qual, params, st, FF, S, e1, e2, hc, hb, h1, h2, h3⟩ := L.row f r hr
    refine ⟨a, fd, ps, ⟨e1.symm, hb, h1, h2, h3⟩, ?_⟩
    refine fnG_ofD (k := 2 * n + 2) FF S (fun vs H Q E ⟨_, _, _, _, rs, hl, _⟩ => by rw [← rs.length, hl, e1]) fun cdv A outer s H vs Q E room gd ⟨ρ, h, ds, rel, rs, hl, q⟩ => ?_
    have cx := cxt_of (qual := qual) (f := a) (cd := cdv) (A := A) (outer := outer) (s := s) (H := H) (E := E) S (L.tab (L.lvl n)) (L.tx (2 * n + 1) (by omega)) room gd
    exact ⟨_, sndSs r.body cx hc, run_res (n := n) e2 rel rs (callN_res hr q).2⟩
end
end Z
end
section
set_option Elab.async false
set_option linter.all false
set_option maxRecDepth 100000
set_option maxHeartbeats 1000000
namespace Z
open PySem L2 PyProof.Rows

/-! ## a text as tables -/
structure FRow where
  at_ : Str × Option Str
  name : Str
  qual : Str
  st : Stmt
  nm : List Str
  ps : List Str
  fn : Fn
structure XRow where
  c : Nat
  qual : Str
  st : Stmt
  nm : List Str
  base : Nat
  l : List Nat
structure Pk where
  rows : List FRow
  cnames : List Str
  insts : List Nat
  flds : List Str
  mnames : List Str
  gl : List (Str × D)
  meths : List ((Nat × Nat) × Nat)
  inits : List (Nat × Nat)
  hasF : List (Nat × Nat)
  excs : List XRow
  xnames : List (Str × Bool)
  isx : List (Nat × Nat)
def fldName (l : List Str) (i : Nat) : Str := match l[i]? with
  | some x => x
  | none => ⟨#[2000000 + i]⟩
def lowB (x : Str) : Bool := x.cps.toList.all fun c => decide (c < 2000000)
def fldsOk (l : List Str) : Bool := decide l.Nodup && l.all lowB
theorem junk_low {i : Nat} {x : Str} (h : lowB x = true) : x ≠ ⟨#[2000000 + i]⟩ := fun e => by
  subst e
  simp [lowB] at h
  omega
theorem fldName_inj {l : List Str} (h : fldsOk l = true) (i j : Nat) (e : fldName l i = fldName l j) : i = j := by
  simp only [fldsOk, Bool.and_eq_true, decide_eq_true_eq, List.all_eq_true] at h
  unfold fldName at e
  cases hi : l[i]? with
  | some x =>
    cases hj : l[j]? with
    | some y =>
      rw [hi, hj] at e
      have e' : x = y := e
      subst e'
      exact (List.getElem?_inj (List.getElem?_eq_some_iff.mp hi).1 h.1).mp (hi.trans hj.symm)
    | none =>
      rw [hi, hj] at e
      exact absurd e (junk_low (h.2 x (List.mem_of_getElem? hi)))
  | none =>
    cases hj : l[j]? with
    | some y =>
      rw [hi, hj] at e
      exact absurd e.symm (junk_low (h.2 y (List.mem_of_getElem? hj)))
    | none =>
      rw [hi, hj] at e
      have e' : (⟨#[2000000 + i]⟩ : Str) = ⟨#[2000000 + j]⟩ := e
      injection e' with e1
      have e2 := congrArg Array.toList e1
      simp at e2
      exact e2
namespace Pk
variable (p : Pk)
def cn (c : Nat) : Str := (p.cnames[c]?).getD ""
def mn (m : Nat) : Str := (p.mnames[m]?).getD ""
def tb : Tb where
  fname f := match p.rows[f]? with
    | some r => match r.at_.2 with
      | none => some r.at_.1
      | some _ => none
    | none => none
  cname c := p.cnames[c]?
  gname g := (p.gl[g]?).map (·.1)
  mname := p.mn
  xname c := (p.xnames[c]?).map (·.1)
  fld := fldName p.flds
def gm : Gm where
  np f := ((p.rows[f]?).map fun r => r.fn.np).getD 0
  meth c m := p.meths.lookup (c, m)
  init c := p.inits.lookup c
  hasF c f := p.hasF.contains (c, f)
  exc c := (p.excs.find? fun x => Nat.beq x.c c).map (·.l)
  isx c c' := p.isx.contains (c, c')
  glob g := ((p.gl[g]?).map (·.2)).getD .non
def nmK (h : fldsOk p.flds = true) (K : PySem.W.Frag) : Nm := ⟨fldName p.flds, fun c => He.ga K (p.cn c), fldName_inj h⟩
def fT (f : Nat) : Option Fn := (p.rows[f]?).map (·.fn)
def free : List Str := ["len", "str", "int", "tuple", "list", "max", "abs", "range", "enumerate", "isinstance"]
def fa : List He.Fa := (p.rows.filterMap fun r => match r.at_.2 with
    | none => some (He.Fa.glo r.at_.1)
    | some _ => none) ++ p.cnames.map He.Fa.glo ++ p.insts.map (fun c => He.Fa.cls (p.cn c)) ++ p.hasF.map (fun q => He.Fa.noat (p.cn q.1) (fldName p.flds q.2)) ++
  p.meths.map (fun q => He.Fa.meth (p.cn q.1.1) (p.mn q.1.2)) ++ p.inits.map (fun q => He.Fa.mkr (p.cn q.1)) ++ free.map He.Fa.free
def toD (r : FRow) : He.DefD := ⟨r.at_, r.name, r.qual, defArgs r.st, defBody r.st, defScope r.st, [], []⟩
def xD (x : XRow) : He.DefD := ⟨(p.cn x.c, some "__init__"), "__init__", x.qual, defArgs x.st, defBody x.st, defScope x.st, [], []⟩
def defs : List He.DefD := p.rows.map toD ++ p.excs.map p.xD
end Pk
/-! ### what is looked at besides -/
mutual
def globB (K : PySem.W.Frag) : D → Value → Bool
  | .int i, .int j _ => decide (i = j)
  | .str l, .str x _ => decide (x = ⟨l.toArray⟩)
  | .bl b, .bool c => b == c
  | .non, .none => true
  | .tup ds, .ref a => match K.lookup a with
    | some ⟨.type c, _, .seq its _, _⟩ => decide (c = "tuple") && decide (its.size ≤ sizeLine) && globsB K ds its.toList
    | _ => false
  | _, _ => false
def globsB (K : PySem.W.Frag) : List D → List Value → Bool
  | [], [] => true
  | d :: ds, v :: vs => globB K d v && globsB K ds vs
  | _, _ => false
end
def oexB (K : PySem.W.Frag) (C : Addr) : Bool := match K.lookup C with
  | some ⟨.type t, _, .cls cd, sl⟩ => decide (t = "type") && (match cd.mro, sl.toList with
    | .ref C' :: bm, [_, _, _, _, some (.builtin n), _] => C' == C && decide (n = "ValueError.__new__") && !cd.hasDel && cd.hasDict && PySem.HandSPX.refsVE bm
    | _, _ => false)
  | _ => false
def excB (K : PySem.W.Frag) (C : Addr) : Bool :=
  He.eqO (PySem.W.findIn K (.ref C) "__getattribute__") (some (some (.builtin "BaseException.__getattribute__"))) && He.eqO (PySem.W.findIn K (.ref C) "__getattr__") (some none) && decide (PySem.W.subIn K (.ref C) (.type "BaseException") = some true) && PySem.W.hasDictIn K C &&
  He.eqO (PySem.W.findIn K (.ref C) "__class__") (some (some (.builtin "object.__class__"))) && He.eqO (PySem.W.specialIn K (.builtin "object.__class__") "__get__") (some (some (.builtin "getset_descriptor.__get__"))) && decide (PySem.W.takesIn K (.builtin "object.__class__") = some true) && decide (PySem.W.mroIn K C (.type "object") = some true) &&
  He.eqO (PySem.W.findIn K (.ref C) "__setattr__") (some (some (.builtin "object.__setattr__"))) && decide (PySem.W.typeIn K (.ref C) = some (.type "type")) && PySem.W.keepIn K (.ref C)
def baseB (K : PySem.W.Frag) (B : Addr) : Bool := PySem.W.readsIn K B (.type "type") && He.eqO (PySem.W.specialIn K (.ref B) "__getattribute__") (some (some (.builtin "type.__getattribute__"))) &&
  (match PySem.W.findCls K (.ref B) (.type "type") "__init__" with
    | some (.val (.builtin n)) => decide (n = "ValueError.__init__")
    | _ => false)
def xv (K : PySem.W.Frag) (q : Str × Bool) : Value := if q.2 then .ref (He.ga K q.1) else .type q.1.toString
namespace Pk
variable (p : Pk)
def xrowB (K : PySem.W.Frag) (x : XRow) : Bool := oexB K (He.ga K (p.cn x.c)) && excB K (He.ga K (p.cn x.c)) && baseB K (He.ga K (p.cn x.base)) && (x.l.all fun f => He.eqO (PySem.W.findIn K (.ref (He.ga K (p.cn x.c))) (fldName p.flds f)) (some none)) &&
  He.eqO (PySem.W.findIn K (.ref (He.ga K (p.cn x.c))) "__init__") (some (some (.ref (He.ma K (He.ga K (p.cn x.c)) "__init__")))) && decide (PySem.W.typeIn K (.ref (He.ma K (He.ga K (p.cn x.c)) "__init__")) = some (.type "function"))
def xnB (K : PySem.W.Frag) (i : Nat) (q : Str × Bool) : Bool := (if q.2 then He.eqO (PySem.W.nsIn K mainGlobals q.1) (some (some (.ref (He.ga K q.1)))) else He.eqO (PySem.W.nsIn K mainGlobals q.1) (some none)) &&
  p.excs.all fun x => decide (PySem.W.kitOne K (.ref (He.ga K (p.cn x.c))) (xv K q) = some (p.gm.isx x.c i)) && decide (PySem.W.exmOne K (.ref (He.ga K (p.cn x.c))) (xv K q) = some (p.gm.isx x.c i))
def noList (K : PySem.W.Frag) : Bool := K.all fun q => match q.2.cls with
  | .type t => !decide (t = "list")
  | _ => true
def ex (K : PySem.W.Frag) : Bool := (p.gl.all fun q => match PySem.W.nsIn K mainGlobals q.1 with
    | some (some u) => globB K q.2 u
    | _ => false) && (p.excs.all fun x => p.xrowB K x) && ((p.xnames.zipIdx).all fun q => p.xnB K q.2 q.1) && noList K
/-! ### the text's own part -/
def scopeB (nm ps : List Str) (sc : Scope) : Bool := (match sc.kind with | .function => true | _ => false) && !sc.isCoroutine && !sc.isGenerator && decide nm.Nodup && decide (nm.take ps.length = ps) && (ps.all fun x => locB sc x) && sc.names.all fun y => match y.2 with | .free => false | _ => true
def rowB (r : FRow) : Bool := scopeB r.nm r.ps (defScope r.st) && decide (r.fn.np = r.ps.length) && decide (r.fn.ns = r.nm.length) && chkSs p.tb p.gm r.nm (defScope r.st) r.fn.body (defBody r.st)
def xsB (x : XRow) : Bool := scopeB x.nm x.nm (defScope x.st) && initB x.nm (defScope x.st) (p.cn x.base) ((x.l.map (fldName p.flds)).zipIdx 1) (defBody x.st) && decide (x.nm.length = x.l.length + 1) && !x.l.isEmpty && decide (x.l.length ≤ 20) && glB (defScope x.st) (p.cn x.base) && !(p.cn x.base == ("__debug__" : Str)) && decide ((p.cnames[x.base]?).isSome = true) && decide ((p.cnames[x.c]?).isSome = true)
def linkB : Bool := (p.meths.all fun q => (match p.rows[q.2]? with
    | some r => decide (r.at_ = (p.cn q.1.1, some (p.mn q.1.2)))
    | none => false) && p.insts.contains q.1.1) && (p.inits.all fun q => match p.rows[q.2]? with
    | some r => decide (r.at_ = (p.cn q.1, some ("__init__" : Str)))
    | none => false) && (p.hasF.all fun q => p.insts.contains q.1) && fldsOk p.flds && (p.mnames.all lowB) && (p.flds.all fun x => !p.mnames.contains x && !decide (x = "")) &&
  (p.xnames.all fun q => q.2 || (decide (bootBuiltins q.1 = some (.type q.1.toString)) && !decide (q.1 = "__name__")))
end Pk
end Z
end
section
set_option Elab.async false
set_option linter.all false
set_option maxRecDepth 100000
set_option maxHeartbeats 1000000
namespace Z
open PySem L2 PyProof.Rows
def BindP (name qual : Str) (st : Stmt) (ps : List Str) : Prop := ∀ (kV doc pm : Value) (an : Option Addr) (cdv ct : Value) (us : List Value), us.length = ps.length → bindArgs (PySem.W.fnOf name qual (defArgs st) (defBody st) (defScope st) .none kV doc pm an cdv ct) ⟨us, []⟩ = pure (ps.zip us)
theorem scope_of {nm ps : List Str} {sc : Scope} (h : Pk.scopeB nm ps sc = true) : FnScope nm ps sc := by
  simp only [Pk.scopeB, Bool.and_eq_true, Bool.not_eq_true', decide_eq_true_eq, List.all_eq_true] at h
  obtain ⟨⟨⟨⟨⟨⟨h1, h2⟩, h3⟩, h4⟩, h5⟩, h6⟩, h7⟩ := h
  refine ⟨?_, h2, h3, h4, h5, fun x hx => ?_, fun y hy e => ?_⟩
  · split at h1
    · assumption
    · cases h1
  · have := h6 x hx
    unfold locB at this
    split at this
    · exact .inl ‹_›
    · exact .inr ‹_›
    · cases this
  · have := h7 y hy
    rw [e] at this
    cases this
mutual
theorem glob_rep {K : PySem.W.Frag} : ∀ {d : D} {u : Value}, globB K d u = true → ∃ v, RelV v u ∧ ∀ ρ H, Rep K ρ H d v
  | .int i, u, h => by
    cases u <;> simp only [globB, Bool.false_eq_true, decide_eq_true_eq] at h
    subst h; exact ⟨.int i, ⟨_, rfl⟩, fun _ _ => .int _⟩
  | .str l, u, h => by
    cases u <;> simp only [globB, Bool.false_eq_true, decide_eq_true_eq] at h
    subst h; exact ⟨.str _, ⟨_, rfl⟩, fun _ _ => .str _⟩
  | .bl b, u, h => by
    cases u <;> simp only [globB, Bool.false_eq_true, beq_iff_eq] at h
    subst h; exact ⟨.bl _, rfl, fun _ _ => .bl _⟩
  | .non, u, h => by
    cases u <;> simp only [globB, Bool.false_eq_true] at h
    exact ⟨.non, rfl, fun _ _ => .non⟩
  | .ref n, u, h => by
    cases u <;> simp only [globB, Bool.false_eq_true] at h
  | .tup ds, u, h => by
    cases u <;> simp only [globB, Bool.false_eq_true] at h
    rename_i a
    split at h
    · rename_i c dd its n sl e
      simp only [Bool.and_eq_true, decide_eq_true_eq] at h
      obtain ⟨vs, r1, r2⟩ := globs_rep h.2
      refine ⟨.ref a, rfl, fun ρ H => .tup (.inr ⟨_, its, n, e, by rw [h.1.1], rfl, h.1.2, r1⟩) (r2 ρ H)⟩
    · cases h
theorem globs_rep {K : PySem.W.Frag} : ∀ {ds : List D} {us : List Value}, globsB K ds us = true → ∃ vs, Vals vs us ∧ ∀ ρ H, Reps K ρ H ds vs
  | [], us, h => by
    cases us <;> simp only [globsB, Bool.false_eq_true] at h
    exact ⟨[], .nil, fun _ _ => .nil⟩
  | d :: ds, us, h => by
    cases us <;> simp only [globsB, Bool.false_eq_true, Bool.and_eq_true] at h
    obtain ⟨v, a1, a2⟩ := glob_rep h.1
    obtain ⟨vs, b1, b2⟩ := globs_rep h.2
    exact ⟨v :: vs, .cons a1 b1, fun ρ H => .cons (a2 ρ H) (b2 ρ H)⟩
end
theorem oex_of {K : PySem.W.Frag} {C : Addr} (h : oexB K C = true) (e : excB K C = true) : OexC K C ∧ ExcC K C ∧ XfC K C := by
  simp only [excB, Bool.and_eq_true, decide_eq_true_eq] at e
  obtain ⟨⟨⟨⟨⟨⟨⟨⟨⟨⟨e1, e2⟩, e3⟩, e4⟩, e5⟩, e6⟩, e7⟩, e8⟩, e9⟩, e10⟩, e11⟩ := e
  refine ⟨⟨?_, He.eqO_ok e9, e3, e10, e11⟩, ⟨He.eqO_ok e1, He.eqO_ok e2, e3, e4, He.eqO_ok e5, He.eqO_ok e6, e7, e8⟩, ⟨He.eqO_ok e1, He.eqO_ok e2, e3, e4⟩⟩
  unfold oexB at h
  split at h
  · rename_i t dd cd sl ho
    simp only [Bool.and_eq_true, decide_eq_true_eq] at h
    obtain ⟨rfl, h⟩ := h
    split at h
    · rename_i C' bm k0 k1 k2 k3 n k5 hm hs
      simp only [Bool.and_eq_true, beq_iff_eq, decide_eq_true_eq, Bool.not_eq_true'] at h
      obtain ⟨⟨⟨⟨rfl, rfl⟩, hdel⟩, hdd⟩, hv⟩ := h
      obtain ⟨nm, bs, mro, ns, qn, hd, sn, sub, ab, col, del⟩ := cd
      dsimp only at hm hdel hdd
      subst hm hdel hdd
      obtain ⟨sl⟩ := sl
      dsimp only at hs
      subst hs
      exact ⟨_, _, _, _, _, _, _, _, _, _, _, _, _, _, _, ho, hv⟩
    · cases h
  · cases h
theorem base_of' {K : PySem.W.Frag} {B : Addr} (h : baseB K B = true) : BaseInit K B := by
  simp only [baseB, Bool.and_eq_true] at h
  refine ⟨h.1.1, He.eqO_ok h.1.2, ?_⟩
  have h2 := h.2
  split at h2
  · rename_i n e
    rw [e, of_decide_eq_true h2]
  · cases h2
theorem Pk.lib (p : Pk) (hf : fldsOk p.flds = true) (hr : ∀ r ∈ p.rows, p.rowB r = true) (hx : ∀ x ∈ p.excs, p.xsB x = true) (hl : p.linkB = true) (hb : ∀ r ∈ p.rows, BindP r.name r.qual r.st r.ps) (hbx : ∀ x ∈ p.excs, BindP "__init__" x.qual x.st x.nm)
    {P : Program} {w : World} {K : PySem.W.Frag} {h : Heap} {mg : Str → Option Value} {base : Heap} (X : K.In h) (N : h.Ns mainGlobals mg) (c : He.SaysD p.fa p.defs K) (e : p.ex K = true) : Lib p.tb (p.nmK hf K) p.gm p.fT P w K mg base := by
  simp only [Pk.linkB, Bool.and_eq_true, List.all_eq_true, Bool.not_eq_true', decide_eq_true_eq, decide_eq_false_iff_not] at hl
  obtain ⟨⟨⟨⟨⟨⟨l1, l2⟩, l3⟩, l4⟩, l5⟩, l6⟩, l7⟩ := hl
  simp only [Pk.ex, Bool.and_eq_true, List.all_eq_true] at e
  obtain ⟨⟨⟨x1, x2⟩, x3⟩, x4⟩ := e
  have row : ∀ {f : Nat} {r : Fn}, p.fT f = some r → ∃ R, p.rows[f]? = some R ∧ r = R.fn := fun {f r} z => by
    unfold Pk.fT at z
    obtain ⟨R, z1, z2⟩ := Option.map_eq_some_iff.mp z
    exact ⟨R, z1, z2.symm⟩
  have lookB : ∀ {α β : Type} [BEq α] [LawfulBEq α] {l : List (α × β)} {a : α} {b : β}, l.lookup a = some b → (a, b) ∈ l := fun {α β _ _ l a b} z => by
    induction l with
    | nil => simp at z
    | cons q l ih =>
      rw [List.lookup_cons] at z
      split at z
      · rename_i hq
        cases z
        have : a = q.1 := by simpa using hq
        subst this
        exact List.mem_cons_self
      · exact List.mem_cons_of_mem _ (ih z)
  have memF : ∀ {x : He.Fa}, x ∈ p.fa → x.ok K = true := fun h => c.facts h
  refine
    { row := fun f r hfr => ?_, np := fun f r hfr => ?_, fnD := fun f x hx' => ?_, meD := fun cc m f hh => ?_, inD := fun cc f hh => ?_, mf := fun m i => ?_, fld := fun cc f hh => ?_, cn := fun cc x hh => ?_, glo := fun g x hh => ?_, nf := fun i => rfl,
      blt := fun b => ?_, rng := ?_, enm := ?_, tx := fun k hk => ?_ }
  · obtain ⟨R, h1, rfl⟩ := row hfr
    have hm := List.mem_of_getElem? h1
    have hB := hr R hm
    simp only [Pk.rowB, Bool.and_eq_true, decide_eq_true_eq] at hB
    obtain ⟨⟨⟨b1, b2⟩, b3⟩, b4⟩ := hB
    obtain ⟨fd, FD⟩ := c.defs (d := Pk.toD R) (List.mem_append_left _ (List.mem_map_of_mem hm))
    refine ⟨_, fd, R.ps, R.nm, R.name, R.qual, defArgs R.st, R.st, FD, scope_of b1, b2, b3, b4, FD.bindsN (hb R hm), fun y hy => ⟨?_, FD.kp⟩, fun cc m hh => ?_, fun cc hh => ?_⟩
    · simp only [Pk.tb, h1] at hy
      split at hy
      · rename_i hat
        cases hy
        have : He.Fa.glo R.at_.1 ∈ p.fa := by
          unfold Pk.fa
          refine List.mem_append_left _ (List.mem_append_left _ (List.mem_append_left _ (List.mem_append_left _ (List.mem_append_left _ (List.mem_append_left _ (List.mem_filterMap.mpr ⟨R, hm, by rw [hat]⟩))))))
        have g := He.glo_ok X N (memF this)
        show mg R.at_.1 = some (.ref (He.fAd K R.at_))
        unfold He.fAd
        rw [hat]
        exact g
      · cases hy
    · have hh' := lookB hh
      have q := l1 _ hh'
      dsimp only at q
      rw [h1] at q
      simp only [decide_eq_true_eq] at q
      have g1 : He.Fa.cls (p.cn cc) ∈ p.fa := by
        unfold Pk.fa
        refine List.mem_append_left _ (List.mem_append_left _ (List.mem_append_left _ (List.mem_append_left _ (List.mem_append_right _ (List.mem_map.mpr ⟨cc, by simpa using q.2, rfl⟩)))))
      have g2 : He.Fa.meth (p.cn cc) (p.mn m) ∈ p.fa := by
        unfold Pk.fa
        refine List.mem_append_left _ (List.mem_append_left _ (List.mem_append_right _ (List.mem_map.mpr ⟨_, hh', rfl⟩)))
      refine ⟨He.cls_ok (memF g1), ?_⟩
      have := He.meth_ok (memF g2)
      show Meth K (He.ga K (p.cn cc)) (p.mn m) (He.fAd K R.at_)
      rw [q.1]
      exact this
    · have hh' := lookB hh
      have q := l2 _ hh'
      dsimp only at q
      rw [h1] at q
      simp only [decide_eq_true_eq] at q
      have g2 : He.Fa.mkr (p.cn cc) ∈ p.fa := by
        unfold Pk.fa
        refine List.mem_append_left _ (List.mem_append_right _ (List.mem_map.mpr ⟨_, hh', rfl⟩))
      have := He.mkr_ok (memF g2)
      show Mk K (He.ga K (p.cn cc)) (He.fAd K R.at_)
      rw [q]
      exact this
  · obtain ⟨R, h1, rfl⟩ := row hfr
    show ((p.rows[f]?).map fun r => r.fn.np).getD 0 = _
    rw [h1]
    rfl
  · simp only [Pk.tb] at hx'
    cases h1 : p.rows[f]? with
    | none => rw [h1] at hx'; cases hx'
    | some R => exact ⟨R.fn, by unfold Pk.fT; rw [h1]; rfl⟩
  · have q := (l1 _ (lookB hh)).1
    dsimp only at q
    cases h1 : p.rows[f]? with
    | none => rw [h1] at q; cases q
    | some R => exact ⟨R.fn, by unfold Pk.fT; rw [h1]; rfl⟩
  · have q := l2 _ (lookB hh)
    dsimp only at q
    cases h1 : p.rows[f]? with
    | none => rw [h1] at q; cases q
    | some R => exact ⟨R.fn, by unfold Pk.fT; rw [h1]; rfl⟩
  · show fldName p.flds i ≠ p.mn m
    unfold fldName Pk.mn
    cases hi : p.flds[i]? with
    | some x =>
      have q := l6 x (List.mem_of_getElem? hi)
      cases hm : p.mnames[m]? with
      | some y =>
        intro z
        have z' : x = y := z
        subst z'
        have := List.mem_of_getElem? hm
        simp [this] at q
      | none => exact fun z => q.2 z
    | none =>
      cases hm : p.mnames[m]? with
      | some y => exact fun z => junk_low (l5 y (List.mem_of_getElem? hm)) z.symm
      | none =>
        intro z
        have z' : (⟨#[2000000 + i]⟩ : Str) = "" := z
        have := congrArg (fun s : Str => s.cps.size) z'
        simp at this
        exact absurd this (by decide)
  · have hm : (cc, f) ∈ p.hasF := by simpa [Pk.gm] using hh
    have g1 : He.Fa.cls (p.cn cc) ∈ p.fa := by
      unfold Pk.fa
      refine List.mem_append_left _ (List.mem_append_left _ (List.mem_append_left _ (List.mem_append_left _ (List.mem_append_right _ (List.mem_map.mpr ⟨cc, by simpa using l3 _ hm, rfl⟩)))))
    have g2 : He.Fa.noat (p.cn cc) (fldName p.flds f) ∈ p.fa := by
      unfold Pk.fa
      refine List.mem_append_left _ (List.mem_append_left _ (List.mem_append_left _ (List.mem_append_right _ (List.mem_map.mpr ⟨_, hm, rfl⟩))))
    exact ⟨He.cls_ok (memF g1), He.noat_ok (memF g2)⟩
  · have hh' : p.cnames[cc]? = some x := hh
    have g1 : He.Fa.glo x ∈ p.fa := by
      unfold Pk.fa
      refine List.mem_append_left _ (List.mem_append_left _ (List.mem_append_left _ (List.mem_append_left _ (List.mem_append_left _ (List.mem_append_right _ (List.mem_map.mpr ⟨x, List.mem_of_getElem? hh', rfl⟩))))))
    have := He.glo_ok X N (memF g1)
    show mg x = some (.ref (He.ga K (p.cn cc)))
    unfold Pk.cn
    rw [hh']
    exact this
  · have hh' : (p.gl[g]?).map (·.1) = some x := hh
    obtain ⟨q, q1, q2⟩ := Option.map_eq_some_iff.mp hh'
    have q3 := x1 q (List.mem_of_getElem? q1)
    subst q2
    split at q3
    · rename_i u e1
      obtain ⟨v, r1, r2⟩ := glob_rep q3
      refine ⟨u, v, PySem.W.mg_of X N e1, r1, fun ρ H => ?_⟩
      show Rep K ρ H (((p.gl[g]?).map (·.2)).getD .non) v
      rw [q1]
      exact r2 ρ H
    · cases q3
  · refine He.free_ok X N (memF ?_)
    unfold Pk.fa
    exact List.mem_append_right _ (List.mem_map.mpr ⟨b.name, by cases b <;> simp [Pk.free, Blt.name], rfl⟩)
  · refine He.free_ok X N (memF ?_)
    unfold Pk.fa
    exact List.mem_append_right _ (List.mem_map.mpr ⟨_, by simp [Pk.free], rfl⟩)
  · refine He.free_ok X N (memF ?_)
    unfold Pk.fa
    exact List.mem_append_right _ (List.mem_map.mpr ⟨_, by simp [Pk.free], rfl⟩)
  · have cnm : ∀ {cc : Nat}, (p.cnames[cc]?).isSome = true → p.cnames[cc]? = some (p.cn cc) ∧ mg (p.cn cc) = some (.ref (He.ga K (p.cn cc))) := fun {cc} hs => by
      obtain ⟨x, hx0⟩ := Option.isSome_iff_exists.mp hs
      have e1 : p.cn cc = x := by unfold Pk.cn; rw [hx0]; rfl
      have g1 : He.Fa.glo x ∈ p.fa := by
        unfold Pk.fa
        refine List.mem_append_left _ (List.mem_append_left _ (List.mem_append_left _ (List.mem_append_left _ (List.mem_append_left _ (List.mem_append_right _ (List.mem_map.mpr ⟨x, List.mem_of_getElem? hx0, rfl⟩))))))
      rw [e1]
      exact ⟨hx0, He.glo_ok X N (memF g1)⟩
    refine ⟨fun cc l hh => ?_, fun c' x hh => ?_, ?_⟩
    · obtain ⟨r, r1, rfl⟩ := Option.map_eq_some_iff.mp (show (p.excs.find? fun x => Nat.beq x.c cc).map (·.l) = some l from hh)
      have hm := List.mem_of_find?_eq_some r1
      have hc : r.c = cc := Nat.eq_of_beq_eq_true (List.find?_some (p := fun x : XRow => Nat.beq x.c cc) r1)
      subst hc
      have xs := hx r hm
      simp only [Pk.xsB, Bool.and_eq_true, Bool.not_eq_true', decide_eq_true_eq] at xs
      obtain ⟨⟨⟨⟨⟨⟨⟨⟨s1, s2⟩, s3⟩, s4⟩, s5⟩, s6⟩, s7⟩, s8⟩, s9⟩ := xs
      have xr := x2 r hm
      simp only [Pk.xrowB, Bool.and_eq_true, List.all_eq_true, decide_eq_true_eq] at xr
      obtain ⟨⟨⟨⟨⟨t1, t2⟩, t3⟩, t4⟩, t5⟩, t6⟩ := xr
      obtain ⟨o1, o2, o3⟩ := oex_of t1 t2
      obtain ⟨c1, c2⟩ := cnm s9
      obtain ⟨b1, b2⟩ := cnm s8
      have hne : r.l ≠ [] := fun z => by rw [z] at s4; cases s4
      obtain ⟨fd, FD⟩ := c.defs (d := p.xD r) (List.mem_append_right _ (List.mem_map_of_mem hm))
      have FF : Fun K "__init__" r.qual r.st (He.ma K (He.ga K (p.cn r.c)) "__init__") fd := He5.fun_of FD
      have fi : ∀ f ∈ r.l.map (fldName p.flds), PySem.W.findIn K (.ref (He.ga K (p.cn r.c))) f = some none := fun f hfm => by
        obtain ⟨i, hi, rfl⟩ := List.mem_map.mp hfm
        exact He.eqO_ok (t4 i hi)
      refine ⟨⟨hne, s5⟩, o1, o2, o3, fun f hfm => He.eqO_ok (t4 f hfm), p.cn r.c, _, fd, r.nm, c1, He.eqO_ok t5, t6, ?_, FD.bindsN (hbx r hm)⟩
      obtain ⟨k', rfl⟩ : ∃ k', k = k' + 1 := ⟨k - 1, by omega⟩
      exact init_fn FF (scope_of s1) s2 (by rw [List.length_map]; exact s3) (by simpa using hne) (by rw [List.length_map]; exact s5) b2 s6 s7 (base_of' t3) o1 fi
    · obtain ⟨q, q1, rfl⟩ := Option.map_eq_some_iff.mp (show (p.xnames[c']?).map (·.1) = some x from hh)
      have xb := x3 (q, c') (List.mk_mem_zipIdx_iff_getElem?.mpr q1)
      simp only [Pk.xnB, Bool.and_eq_true, List.all_eq_true, decide_eq_true_eq] at xb
      have l7' := l7 q (List.mem_of_getElem? q1)
      have fin : ∀ cc l, p.gm.exc cc = some l → PySem.W.kitOne K (.ref (He.ga K (p.cn cc))) (xv K q) = some (p.gm.isx cc c') ∧ PySem.W.exmOne K (.ref (He.ga K (p.cn cc))) (xv K q) = some (p.gm.isx cc c') := fun cc l hcl => by
        obtain ⟨r, r1, _⟩ := Option.map_eq_some_iff.mp (show (p.excs.find? fun x => Nat.beq x.c cc).map (·.l) = some l from hcl)
        have hc : r.c = cc := Nat.eq_of_beq_eq_true (List.find?_some (p := fun x : XRow => Nat.beq x.c cc) r1)
        subst hc
        exact xb.2 r (List.mem_of_find?_eq_some r1)
      obtain ⟨x, own⟩ := q
      cases own with
      | true => exact ⟨.ref (He.ga K x), _, rfl, fun u hu => hu, .inl (PySem.W.mg_of X N (He.eqO_ok (by simpa using xb.1))), fin⟩
      | false =>
        simp only [Bool.false_eq_true, false_or, Bool.and_eq_true, decide_eq_true_eq, Bool.not_eq_true', decide_eq_false_iff_not, Bool.false_or] at l7'
        exact ⟨.ty x.toString, _, rfl, fun u hu => hu, .inr ⟨PySem.W.mg_none_of X N (He.eqO_ok (by simpa using xb.1)), l7'.1, l7'.2⟩, fin⟩
    · refine He.free_ok X N (memF ?_)
      unfold Pk.fa
      exact List.mem_append_right _ (List.mem_map.mpr ⟨_, by simp [Pk.free], rfl⟩)
end Z
end
section
set_option Elab.async false
set_option linter.all false
set_option maxRecDepth 100000
set_option maxHeartbeats 1000000
namespace Z
open PySem PySem.Spec L2 PyProof.Rows

/-! ## the law's own call -/
/-- a script's heap -/
def hs0 (ns : List Int) : Hs := ⟨[(0, .frz (ns.map D.int))], 1⟩
/-- only the script is tracked -/
def Hsc (a : Addr) (vs : List Value) (ns : List Int) : Hp := fun b => if b = a then some (.frz { cls := .type "list", data := .seq vs.toArray } (.lst (ns.map V.int))) else none
theorem Hsc_at {a : Addr} {vs : List Value} {ns : List Int} : Hsc a vs ns a = some (.frz { cls := .type "list", data := .seq vs.toArray } (.lst (ns.map V.int))) := if_pos rfl
theorem Hsc_ne {a b : Addr} {vs : List Value} {ns : List Int} (e : b ≠ a) : Hsc a vs ns b = none := if_neg e
theorem ints_reps {K ρ H} : ∀ ns : List Int, Reps K ρ H (ns.map D.int) (ns.map V.int)
  | [] => .nil
  | n :: r => .cons (.int n) (ints_reps r)
theorem rel_script {N : Nm} {K : PySem.W.Frag} {a : Addr} {vs : List Value} {ns : List Int} : RelH N K (fun n => if n = 0 then some a else none) (hs0 ns) (Hsc a vs ns) := by
  refine ⟨fun m n b e1 e2 => ?_, fun n o g => ?_, fun n b e => ?_, fun n hz => ?_⟩
  · by_cases h1 : m = 0
    · by_cases h2 : n = 0
      · rw [h1, h2]
      · rw [if_neg h2] at e2; cases e2
    · rw [if_neg h1] at e1; cases e1
  · have g' : (if Nat.beq 0 n = true then some (Ob.frz (ns.map D.int)) else none) = some o := g
    by_cases h1 : n = 0
    · subst h1
      cases g'
      exact ⟨a, if_pos rfl, _, _, Hsc_at, ints_reps ns⟩
    · rw [if_neg (by rw [nbeq]; omega)] at g'; cases g'
  · by_cases h1 : n = 0
    · subst h1; exact ⟨_, rfl⟩
    · rw [if_neg h1] at e; cases e
  · have h1 : 1 ≤ n := hz
    show (if Nat.beq 0 n = true then some (Ob.frz (ns.map D.int)) else none) = none
    rw [if_neg (by rw [nbeq]; omega)]
theorem mem_of_lookup {K : PySem.W.Frag} {a : Addr} {o : Obj} (e : K.lookup a = some o) : (a, o) ∈ K := by
  induction K with
  | nil => simp at e
  | cons q l ih =>
    rw [List.lookup_cons] at e
    split at e
    · rename_i hq
      cases e
      have : a = q.1 := by simpa using hq
      subst this
      exact List.mem_cons_self
    · exact List.mem_cons_of_mem _ (ih e)
theorem run_law {P : Program} {w : World} {K : PySem.W.Frag} {mg mb : Str → Option Value} {k : Nat} {fa a : Addr} {sp : Sp} {st : Shared} {vs : List Value} {ns : List Int}
    (kin : K.In st.heap) (gl : st.heap.Ns mainGlobals mg) (bl : st.heap.Ns builtinsNs mb) (bb : ∀ y : Str, y ≠ "__name__" → mb y = bootBuiltins y) (nl : st.heap.NoLimit) (ge : st.gens = #[])
    (oa : st.heap.get? a = some { cls := .type "list", data := .seq vs.toArray }) (ia : IntsAre vs ns) (le : ns.length ≤ sizeLine) (rm : Room k callerA) (nK : K.lookup a = none)
    (F : ∀ base : Heap, K.In base → base.Ns mainGlobals mg → ∃ fd x, Binds K fd [x] [] ∧ FnG P w K mg base k fa fd [x] sp) (hs : sp [.ref a] (Hsc a vs ns) (fun v _ => v = .bl true) fun _ _ _ => False) :
    codeAny (model P w) callerA (.call (.ref fa) ⟨[.ref a], []⟩) (fun r s' => r = .ok (.ret (.bool true)) ∧ OldK st.heap s'.heap ∧ s'.os = st.os ∧ AllBare s'.gens) st := by
  have one : ∀ {b : Addr}, Hsc a vs ns b ≠ none → b = a := fun {b} z => Classical.byContradiction fun hb => z (Hsc_ne hb)
  have hok : HOk P w (Hsc a vs ns) st.heap := fun b u z => by
    have hb : b = a := one (by rw [z]; simp)
    subst hb
    rw [Hsc_at] at z
    cases z
    exact ⟨oa, by rw [List.length_map]; exact le, vs, _, vals_ints ia, oa⟩
  have keep : ∀ {b : Addr} {o : Obj}, st.heap.get? b = some o → b ≠ a → (hidT st.heap (Hsc a vs ns)).get? b = some o := fun z hb => hidT_get z (Hsc_ne hb)
  have nsK : ∀ {b : Addr} {m : Str → Option Value}, st.heap.Ns b m → (hidT st.heap (Hsc a vs ns)).Ns b m := fun {b m} ⟨o, es, ep, z, dz, r⟩ => ⟨o, es, ep, keep z (fun q => by
    subst q
    rw [oa] at z
    cases z
    cases (show Data.seq vs.toArray _ = Data.dict es ep from dz)), dz, r⟩
  have kin2 : K.In (hidT st.heap (Hsc a vs ns)) := fun b o z => keep (kin b o z) fun q => by rw [q, nK] at z; cases z
  have md : Mod K mg (hidT st.heap (Hsc a vs ns)) := ⟨kin2, nsK gl, ⟨mb, nsK bl, bb⟩, let ⟨mc, z1, z2⟩ := nl; ⟨mc, nsK z1, z2⟩⟩
  have ev : Env0 P w K mg (hidT st.heap (Hsc a vs ns)) callerA [] st (Hsc a vs ns) :=
    ⟨rfl, md, fun b o z => of_hidT z, Nat.le_of_eq (hidT_size _ _), trivial, fun b hb => absurd hb List.not_mem_nil, hok, .of_eq ge⟩
  obtain ⟨fd, x, bd, FF⟩ := F _ kin2 (nsK gl)
  have bd1 := bd st [.ref a] kin rfl
  rw [List.append_nil] at bd1
  refine codeAny_mono (FF.run callerA [] st (Hsc a vs ns) ⟨[.ref a], []⟩ [.ref a] [.ref a] _ _ rm rfl ev bd1 (.cons rfl .nil) hs) fun r s' z => ?_
  match r, z with
  | .error er, z =>
    obtain ⟨_, _, _, _, _, _, _, _, _, _, _, _, q⟩ := z
    exact q.elim
  | .ok (.ret u), z =>
    obtain ⟨v, H', os, bare, un, hok', rv, q⟩ := z
    have q' : v = .bl true := q
    subst q'
    obtain rfl : u = Value.bool true := rv
    refine ⟨rfl, OldK.of_keep fun b o e => ?_, os, bare⟩
    by_cases hb : b = a
    · subst hb
      rw [oa] at e
      cases e
      obtain ⟨e2, _⟩ := hok' b _ (un.frzs b _ _ Hsc_at)
      exact e2
    · exact un.keep b o e (Hsc_ne hb) List.not_mem_nil (by simp)
/-! ### what is told of the heap behind the top -/
abbrev AlZ : Type := He.AlD × Bool
def asZ (g : Addr → Option Obj) (n : Nat) : List Addr := He.asD g n ++ [cStatics]
def obsZ (n : Nat) (fa : List He.Fa) (fn : List He.DefD) (ex : PySem.W.Frag → Bool) (g : Addr → Option Obj) : AlZ := (He.obsD fa fn (He.frG g (asZ g n)), ex (He.frG g (asZ g n)))
def hookZ (n : Nat) (fa : List He.Fa) (fn : List He.DefD) (ex : PySem.W.Frag → Bool) : PySem.W.Hook where
  α := AlZ
  obs := fun s => obsZ n fa fn ex s.heap.get?
  val := fun _ => (He.valD fn, true)
  says := fun _ h => ∃ K : PySem.W.Frag, K.In h ∧ He.SaysD fa fn K ∧ ex K = true
  of := fun _ _ e => ⟨_, He.frG_in, congrArg Prod.fst e, congrArg Prod.snd e⟩
  keeps := fun _ _ _ ⟨K, hK, c⟩ k => ⟨K, PySem.W.Frag.In.keeps hK k, c⟩
theorem obsZ_eq {n : Nat} {fa : List He.Fa} {fn : List He.DefD} {ex : PySem.W.Frag → Bool} {g : Addr → Option Obj} {s : Shared} (h : ∀ a, g a = s.heap.get? a) : obsZ n fa fn ex g = (hookZ n fa fn ex).obs s := by
  obtain rfl : g = s.heap.get? := funext h
  rfl
/-- THE END: what the evaluator answers at every script -/
theorem walkZ (p : Pk) (hf : fldsOk p.flds = true) (hr : ∀ r ∈ p.rows, p.rowB r = true) (hx : ∀ x ∈ p.excs, p.xsB x = true) (hl : p.linkB = true) (hb : ∀ r ∈ p.rows, BindP r.name r.qual r.st r.ps) (hbx : ∀ x ∈ p.excs, BindP "__init__" x.qual x.st x.nm)
    {l : PySem.W.OpenLaw} {q : Program} {loose : List Str} {XP : (Str → Option Value) → Heap → Prop} {d : DefRec} {m n fL : Nat} {R : FRow} {y : Str} (hn : l.most = some 63) (hdf : d.params.defaults = []) (hd : d.name = y) (hR : p.rows[fL]? = some R) (hat : R.at_ = (y, none)) (hps : R.ps.length = 1) (rm : Room (2 * n + 1) callerA)
    (law : ∀ ns : List Int, ns.length ≤ 63 → ∃ h', callN p.gm p.fT n fL [.ref 0] (hs0 ns) = .ok (.bl true) h') :
    PySem.W.WalkO q loose XP (hookZ m p.fa p.defs p.ex).says l.row.toRowW d [] (fun f vs => PySem.call f vs) := by
  refine Att.attach_call hn hdf fun w s₀ st mg mb fa o pm cd doc a vs ns G Y ho hdd hcd hmg hobj hints hlen hg => ?_
  obtain ⟨K, kin, c, more⟩ := Y
  have lb : ∀ base : Heap, Lib p.tb (p.nmK hf K) p.gm p.fT l.prog w K mg base := fun base => p.lib hf hr hx hl hb hbx kin G.T.g c more
  have hfT : p.fT fL = some R.fn := by unfold Pk.fT; rw [hR]; rfl
  have hfn : p.tb.fname fL = some y := by simp only [Pk.tb, hR, hat]
  have nK : K.lookup a = none := by
    cases e : K.lookup a with
    | none => rfl
    | some o2 =>
      exfalso
      have z := kin a o2 e
      rw [hobj] at z
      cases z
      have nl := more
      simp only [Pk.ex, Bool.and_eq_true, Pk.noList, List.all_eq_true] at nl
      have := nl.2 _ (mem_of_lookup e)
      simp at this
  obtain ⟨h', hq⟩ := law ns hlen
  have key : ∀ base : Heap, ∃ fd ps, At (p.nmK hf K) p.tb p.gm K mg fL R.fn.np fa fd ps ∧ FnG l.prog w K mg base (2 * n + 1) fa fd ps (spF (p.nmK hf K) K (callN p.gm p.fT n fL) R.fn.np) := fun base => by
    obtain ⟨a', fd, ps, A, g⟩ := (lb base).lvl n fL R.fn hfT
    have e1 := (A.fn y hfn).1
    rw [← hd, hmg] at e1
    cases e1
    exact ⟨fd, ps, A, g⟩
  have hrow := hr R (List.mem_of_getElem? hR)
  simp only [Pk.rowB, Bool.and_eq_true, decide_eq_true_eq] at hrow
  refine run_law (sp := spF (p.nmK hf K) K (callN p.gm p.fT n fL) R.fn.np) kin G.T.g G.T.b G.T.builtins G.T.nolimit hg hobj hints (Nat.le_trans hlen (by decide)) rm nK (fun base _ _ => ?_) ?_
  · obtain ⟨fd, ps, A, g⟩ := key base
    have hps1 : ps.length = 1 := by rw [A.len, hrow.1.1.2, hps]
    match ps, hps1, A, g with
    | [x], _, A, g => exact ⟨fd, x, A.bind, g⟩
  · refine ⟨_, hs0 ns, [.ref 0], rel_script, .cons (.ref (if_pos rfl)) .nil, by rw [hrow.1.1.2, hps]; rfl, ?_⟩
    rw [hq]
    exact fun ρ' H' v g r => r.bl_inv
end Z
end
section
set_option Elab.async false
set_option linter.all false
set_option maxRecDepth 100000
set_option maxHeartbeats 1000000
namespace Z

/-! ## the evaluator by the recursors alone, for the kernel -/
def iSeq (e : SE) : Ev → Hs → R Src := fun σ h => (e σ h).bind fun d h1 => match srcOf h1 d with
  | some s => .ok s h1
  | none => .bad
def iEnm (e : SE) : Ev → Hs → R Src := fun σ h => (e σ h).bind fun d h1 => match esrcOf h1 d with
  | some s => .ok s h1
  | none => .bad
def iRng1 (e : SE) : Ev → Hs → R Src := fun σ h => (e σ h).bind fun d h1 => match d with
  | .int j => if smallI j then .ok (.rng 0 j.toNat) h1 else .bad
  | _ => .bad
def iRng2 (a b : SE) : Ev → Hs → R Src := fun σ h => (a σ h).bind fun d h1 => (b σ h1).bind fun e h2 => match d, e with
  | .int i, .int j => if smallI i && smallI j then .ok (.rng i (j - i).toNat) h2 else .bad
  | _, _ => .bad
section
variable (G : Gm) (C : Cl)
noncomputable def kE : E → SE × ST :=
    @E.rec (fun _ => SE × ST) (fun _ => SA × (List Nat → SE)) (fun _ => (Ev → Hs → R (Option Int)) × ST) (fun _ => Ev → Hs → R Src)
      (fun i => (sVar i, valT (sVar i))) (fun d => (fun _ h => .ok d h, valT fun _ h => .ok d h)) (fun g => (fun _ h => .ok (G.glob g) h, valT fun _ h => .ok (G.glob g) h)) (fun o _ _ a b => (sBin o a.1 b.1, valT (sBin o a.1 b.1)))
      (fun _ a => (sNeg a.1, valT (sNeg a.1))) (fun o _ _ a b => (sCmp o a.1 b.1, tCmpB o a.1 b.1)) (fun o p _ _ _ a b c => (sChn o p a.1 b.1 c.1, valT (sChn o p a.1 b.1 c.1)))
      (fun _ _ a b => (sAnd a.1 b.1, tAndB a.2 b.2)) (fun _ _ a b => (sOr a.1 b.1, tOrB a.2 b.2)) (fun _ a => (sNot a.1, tNotB a.2)) (fun _ _ _ c a b => (sIfe c.2 a.1 b.1, valT (sIfe c.2 a.1 b.1)))
      (fun _ es => (sTup es.1, valT (sTup es.1))) (fun _ es => (sLst es.1, valT (sLst es.1))) (fun _ h => .ok (.ref h.n) (h.new (.dic [])), valT fun _ h => .ok (.ref h.n) (h.new (.dic [])))
      (fun _ _ a b => (sIdx a.1 b.1, valT (sIdx a.1 b.1))) (fun _ _ _ a lo hi => (sSlc a.1 lo.1 hi.1, valT (sSlc a.1 lo.1 hi.1))) (fun _ x a => (sFld G a.1 x, valT (sFld G a.1 x)))
      (fun x _ es => (sCall G C x es.1, valT (sCall G C x es.1))) (fun x _ es => (sPure G C x es.1, valT (sPure G C x es.1))) (fun _ m _ o es => (sMeth G C o.1 m es.1, valT (sMeth G C o.1 m es.1))) (fun c _ es => (sMake G C c es.1, valT (sMake G C c es.1)))
      (fun b _ es => (sBlt b es.1, valT (sBlt b es.1))) (fun b _ _ o es => (sBm b o.1 es.1, valT (sBm b o.1 es.1))) (fun _ tg own _ _ it cond elt => (sLc it tg own cond.2 elt.1, valT (sLc it tg own cond.2 elt.1)))
      (fun _ a => (sFmt a.1, valT (sFmt a.1))) (fun _ es => (es.2 [], valT (es.2 []))) (fun _ _ => .bad, fun _ _ => .bad)
      (fun _ h => .ok [] h, fun acc _ h => .ok (.str acc) h) (fun _ _ e r => (fun σ h => (e.1 σ h).bind fun d h1 => (r.1 σ h1).bind fun ds h2 => .ok (d :: ds) h2, sJoin e.1 r.2))
      (fun _ h => .ok none h, fun _ h => .ok true h) (fun _ e => (optI e.1, e.2))
      (fun _ e => iSeq e.1) (fun _ e => iRng1 e.1) (fun _ _ a b => iRng2 a.1 b.1) (fun _ e => iEnm e.1)
noncomputable def kAs : Es → SA × (List Nat → SE) :=
    @Es.rec (fun _ => SE × ST) (fun _ => SA × (List Nat → SE)) (fun _ => (Ev → Hs → R (Option Int)) × ST) (fun _ => Ev → Hs → R Src)
      (fun i => (sVar i, valT (sVar i))) (fun d => (fun _ h => .ok d h, valT fun _ h => .ok d h)) (fun g => (fun _ h => .ok (G.glob g) h, valT fun _ h => .ok (G.glob g) h)) (fun o _ _ a b => (sBin o a.1 b.1, valT (sBin o a.1 b.1)))
      (fun _ a => (sNeg a.1, valT (sNeg a.1))) (fun o _ _ a b => (sCmp o a.1 b.1, tCmpB o a.1 b.1)) (fun o p _ _ _ a b c => (sChn o p a.1 b.1 c.1, valT (sChn o p a.1 b.1 c.1)))
      (fun _ _ a b => (sAnd a.1 b.1, tAndB a.2 b.2)) (fun _ _ a b => (sOr a.1 b.1, tOrB a.2 b.2)) (fun _ a => (sNot a.1, tNotB a.2)) (fun _ _ _ c a b => (sIfe c.2 a.1 b.1, valT (sIfe c.2 a.1 b.1)))
      (fun _ es => (sTup es.1, valT (sTup es.1))) (fun _ es => (sLst es.1, valT (sLst es.1))) (fun _ h => .ok (.ref h.n) (h.new (.dic [])), valT fun _ h => .ok (.ref h.n) (h.new (.dic [])))
      (fun _ _ a b => (sIdx a.1 b.1, valT (sIdx a.1 b.1))) (fun _ _ _ a lo hi => (sSlc a.1 lo.1 hi.1, valT (sSlc a.1 lo.1 hi.1))) (fun _ x a => (sFld G a.1 x, valT (sFld G a.1 x)))
      (fun x _ es => (sCall G C x es.1, valT (sCall G C x es.1))) (fun x _ es => (sPure G C x es.1, valT (sPure G C x es.1))) (fun _ m _ o es => (sMeth G C o.1 m es.1, valT (sMeth G C o.1 m es.1))) (fun c _ es => (sMake G C c es.1, valT (sMake G C c es.1)))
      (fun b _ es => (sBlt b es.1, valT (sBlt b es.1))) (fun b _ _ o es => (sBm b o.1 es.1, valT (sBm b o.1 es.1))) (fun _ tg own _ _ it cond elt => (sLc it tg own cond.2 elt.1, valT (sLc it tg own cond.2 elt.1)))
      (fun _ a => (sFmt a.1, valT (sFmt a.1))) (fun _ es => (es.2 [], valT (es.2 []))) (fun _ _ => .bad, fun _ _ => .bad)
      (fun _ h => .ok [] h, fun acc _ h => .ok (.str acc) h) (fun _ _ e r => (fun σ h => (e.1 σ h).bind fun d h1 => (r.1 σ h1).bind fun ds h2 => .ok (d :: ds) h2, sJoin e.1 r.2))
      (fun _ h => .ok none h, fun _ h => .ok true h) (fun _ e => (optI e.1, e.2))
      (fun _ e => iSeq e.1) (fun _ e => iRng1 e.1) (fun _ _ a b => iRng2 a.1 b.1) (fun _ e => iEnm e.1)
noncomputable def kO : Oe → (Ev → Hs → R (Option Int)) × ST :=
    @Oe.rec (fun _ => SE × ST) (fun _ => SA × (List Nat → SE)) (fun _ => (Ev → Hs → R (Option Int)) × ST) (fun _ => Ev → Hs → R Src)
      (fun i => (sVar i, valT (sVar i))) (fun d => (fun _ h => .ok d h, valT fun _ h => .ok d h)) (fun g => (fun _ h => .ok (G.glob g) h, valT fun _ h => .ok (G.glob g) h)) (fun o _ _ a b => (sBin o a.1 b.1, valT (sBin o a.1 b.1)))
      (fun _ a => (sNeg a.1, valT (sNeg a.1))) (fun o _ _ a b => (sCmp o a.1 b.1, tCmpB o a.1 b.1)) (fun o p _ _ _ a b c => (sChn o p a.1 b.1 c.1, valT (sChn o p a.1 b.1 c.1)))
      (fun _ _ a b => (sAnd a.1 b.1, tAndB a.2 b.2)) (fun _ _ a b => (sOr a.1 b.1, tOrB a.2 b.2)) (fun _ a => (sNot a.1, tNotB a.2)) (fun _ _ _ c a b => (sIfe c.2 a.1 b.1, valT (sIfe c.2 a.1 b.1)))
      (fun _ es => (sTup es.1, valT (sTup es.1))) (fun _ es => (sLst es.1, valT (sLst es.1))) (fun _ h => .ok (.ref h.n) (h.new (.dic [])), valT fun _ h => .ok (.ref h.n) (h.new (.dic [])))
      (fun _ _ a b => (sIdx a.1 b.1, valT (sIdx a.1 b.1))) (fun _ _ _ a lo hi => (sSlc a.1 lo.1 hi.1, valT (sSlc a.1 lo.1 hi.1))) (fun _ x a => (sFld G a.1 x, valT (sFld G a.1 x)))
      (fun x _ es => (sCall G C x es.1, valT (sCall G C x es.1))) (fun x _ es => (sPure G C x es.1, valT (sPure G C x es.1))) (fun _ m _ o es => (sMeth G C o.1 m es.1, valT (sMeth G C o.1 m es.1))) (fun c _ es => (sMake G C c es.1, valT (sMake G C c es.1)))
      (fun b _ es => (sBlt b es.1, valT (sBlt b es.1))) (fun b _ _ o es => (sBm b o.1 es.1, valT (sBm b o.1 es.1))) (fun _ tg own _ _ it cond elt => (sLc it tg own cond.2 elt.1, valT (sLc it tg own cond.2 elt.1)))
      (fun _ a => (sFmt a.1, valT (sFmt a.1))) (fun _ es => (es.2 [], valT (es.2 []))) (fun _ _ => .bad, fun _ _ => .bad)
      (fun _ h => .ok [] h, fun acc _ h => .ok (.str acc) h) (fun _ _ e r => (fun σ h => (e.1 σ h).bind fun d h1 => (r.1 σ h1).bind fun ds h2 => .ok (d :: ds) h2, sJoin e.1 r.2))
      (fun _ h => .ok none h, fun _ h => .ok true h) (fun _ e => (optI e.1, e.2))
      (fun _ e => iSeq e.1) (fun _ e => iRng1 e.1) (fun _ _ a b => iRng2 a.1 b.1) (fun _ e => iEnm e.1)
noncomputable def kI : It → Ev → Hs → R Src :=
    @It.rec (fun _ => SE × ST) (fun _ => SA × (List Nat → SE)) (fun _ => (Ev → Hs → R (Option Int)) × ST) (fun _ => Ev → Hs → R Src)
      (fun i => (sVar i, valT (sVar i))) (fun d => (fun _ h => .ok d h, valT fun _ h => .ok d h)) (fun g => (fun _ h => .ok (G.glob g) h, valT fun _ h => .ok (G.glob g) h)) (fun o _ _ a b => (sBin o a.1 b.1, valT (sBin o a.1 b.1)))
      (fun _ a => (sNeg a.1, valT (sNeg a.1))) (fun o _ _ a b => (sCmp o a.1 b.1, tCmpB o a.1 b.1)) (fun o p _ _ _ a b c => (sChn o p a.1 b.1 c.1, valT (sChn o p a.1 b.1 c.1)))
      (fun _ _ a b => (sAnd a.1 b.1, tAndB a.2 b.2)) (fun _ _ a b => (sOr a.1 b.1, tOrB a.2 b.2)) (fun _ a => (sNot a.1, tNotB a.2)) (fun _ _ _ c a b => (sIfe c.2 a.1 b.1, valT (sIfe c.2 a.1 b.1)))
      (fun _ es => (sTup es.1, valT (sTup es.1))) (fun _ es => (sLst es.1, valT (sLst es.1))) (fun _ h => .ok (.ref h.n) (h.new (.dic [])), valT fun _ h => .ok (.ref h.n) (h.new (.dic [])))
      (fun _ _ a b => (sIdx a.1 b.1, valT (sIdx a.1 b.1))) (fun _ _ _ a lo hi => (sSlc a.1 lo.1 hi.1, valT (sSlc a.1 lo.1 hi.1))) (fun _ x a => (sFld G a.1 x, valT (sFld G a.1 x)))
      (fun x _ es => (sCall G C x es.1, valT (sCall G C x es.1))) (fun x _ es => (sPure G C x es.1, valT (sPure G C x es.1))) (fun _ m _ o es => (sMeth G C o.1 m es.1, valT (sMeth G C o.1 m es.1))) (fun c _ es => (sMake G C c es.1, valT (sMake G C c es.1)))
      (fun b _ es => (sBlt b es.1, valT (sBlt b es.1))) (fun b _ _ o es => (sBm b o.1 es.1, valT (sBm b o.1 es.1))) (fun _ tg own _ _ it cond elt => (sLc it tg own cond.2 elt.1, valT (sLc it tg own cond.2 elt.1)))
      (fun _ a => (sFmt a.1, valT (sFmt a.1))) (fun _ es => (es.2 [], valT (es.2 []))) (fun _ _ => .bad, fun _ _ => .bad)
      (fun _ h => .ok [] h, fun acc _ h => .ok (.str acc) h) (fun _ _ e r => (fun σ h => (e.1 σ h).bind fun d h1 => (r.1 σ h1).bind fun ds h2 => .ok (d :: ds) h2, sJoin e.1 r.2))
      (fun _ h => .ok none h, fun _ h => .ok true h) (fun _ e => (optI e.1, e.2))
      (fun _ e => iSeq e.1) (fun _ e => iRng1 e.1) (fun _ _ a b => iRng2 a.1 b.1) (fun _ e => iEnm e.1)
mutual
theorem kE_eq : ∀ e : E, kE G C e = evE G C e
  | .var i => by
    unfold evE
    rfl
  | .con d => by
    unfold evE
    rfl
  | .glo g => by
    unfold evE
    rfl
  | .bin o a b => by
    unfold evE
    rw [← kE_eq a, ← kE_eq b]
    rfl
  | .neg a => by
    unfold evE
    rw [← kE_eq a]
    rfl
  | .cmp o a b => by
    unfold evE
    rw [← kE_eq a, ← kE_eq b]
    rfl
  | .chn o p a b c => by
    unfold evE
    rw [← kE_eq a, ← kE_eq b, ← kE_eq c]
    rfl
  | .and a b => by
    unfold evE
    rw [← kE_eq a, ← kE_eq b]
    rfl
  | .or a b => by
    unfold evE
    rw [← kE_eq a, ← kE_eq b]
    rfl
  | .not a => by
    unfold evE
    rw [← kE_eq a]
    rfl
  | .ife c a b => by
    unfold evE
    rw [← kE_eq c, ← kE_eq a, ← kE_eq b]
    rfl
  | .tup es => by
    unfold evE
    rw [← kAs_eq es]
    rfl
  | .lst es => by
    unfold evE
    rw [← kAs_eq es]
    rfl
  | .dnew => by
    unfold evE
    rfl
  | .idx a b => by
    unfold evE
    rw [← kE_eq a, ← kE_eq b]
    rfl
  | .slc a lo hi => by
    unfold evE
    rw [← kE_eq a, ← kO_eq lo, ← kO_eq hi]
    rfl
  | .fld a x => by
    unfold evE
    rw [← kE_eq a]
    rfl
  | .call x es => by
    unfold evE
    rw [← kAs_eq es]
    rfl
  | .pcall x es => by
    unfold evE
    rw [← kAs_eq es]
    rfl
  | .meth o m es => by
    unfold evE
    rw [← kE_eq o, ← kAs_eq es]
    rfl
  | .make c es => by
    unfold evE
    rw [← kAs_eq es]
    rfl
  | .blt b es => by
    unfold evE
    rw [← kAs_eq es]
    rfl
  | .bm b o es => by
    unfold evE
    rw [← kE_eq o, ← kAs_eq es]
    rfl
  | .lc it tg own cond elt => by
    unfold evE
    rw [← kI_eq it, ← kO_eq cond, ← kE_eq elt]
    rfl
  | .fmt e => by
    unfold evE
    rw [← kE_eq e]
    rfl
  | .fstr es => by
    unfold evE
    rw [← kJ_eq es]
    rfl
  | .any => by
    unfold evE
    rfl
theorem kAs_eq : ∀ es : Es, (kAs G C es).1 = evAs G C es
  | .nil => by
    unfold evAs
    rfl
  | .cons e r => by
    unfold evAs
    rw [← kE_eq e, ← kAs_eq r]
    rfl
theorem kJ_eq : ∀ es : Es, (kAs G C es).2 = evJ G C es
  | .nil => by
    unfold evJ
    rfl
  | .cons e r => by
    unfold evJ
    rw [← kE_eq e, ← kJ_eq r]
    rfl
theorem kO_eq : ∀ e : Oe, kO G C e = evO G C e
  | .no => by
    unfold evO
    rfl
  | .yes e => by
    unfold evO
    rw [← kE_eq e]
    rfl
theorem kI_eq : ∀ e : It, kI G C e = evI G C e
  | .seq e => by
    unfold evI
    rw [← kE_eq e]
    rfl
  | .enm e => by
    unfold evI
    rw [← kE_eq e]
    rfl
  | .rng1 e => by
    unfold evI
    rw [← kE_eq e]
    rfl
  | .rng2 a b => by
    unfold evI
    rw [← kE_eq a, ← kE_eq b]
    rfl
end
noncomputable def kS : S → SX :=
    @S.rec (fun _ => SX) (fun _ => SX)
      (fun i e σ h => ((kE G C e).1 σ h).thenS σ fun d h1 => .nx (σ.set i (some d)) h1)
      (fun l e σ h => ((kE G C e).1 σ h).thenS σ fun d h1 => match tgset h1 (.tp l) d σ with
        | some σ' => .nx σ' h1
        | none => .bad)
      (fun o f e σ h => ((kE G C e).1 σ h).thenS σ fun v h1 => ((kE G C o).1 σ h1).thenS σ fun d h2 => (setFop G f d v h2).thenS σ fun _ h3 => .nx σ h3)
      (fun o i e σ h => ((kE G C e).1 σ h).thenS σ fun v h1 => ((kE G C o).1 σ h1).thenS σ fun d h2 => ((kE G C i).1 σ h2).thenS σ fun k h3 => (setIop d k v h3).thenS σ fun _ h4 => .nx σ h4)
      (fun i o e σ h => match σ[i]? with
        | some (some x) => ((kE G C e).1 σ h).thenS σ fun y h1 => match x, y with
          | .int _, .int _ => (binop o x y h1).thenS σ fun z h2 => .nx (σ.set i (some z)) h2
          | _, _ => .bad
        | _ => .bad)
      (fun a f o e σ h => ((kE G C a).1 σ h).thenS σ fun d h1 => (fldop G f d h1).thenS σ fun x h2 => ((kE G C e).1 σ h2).thenS σ fun y h3 => match x, y with
        | .int _, .int _ => if decide (clsOf h1 d = clsOf h3 d) then (binop o x y h3).thenS σ fun z h4 => (setFop G f d z h4).thenS σ fun _ h5 => .nx σ h5 else .bad
        | _, _ => .bad)
      (fun e σ h => ((kE G C e).1 σ h).thenS σ fun _ h1 => .nx σ h1)
      (fun e σ h => ((kE G C e).1 σ h).thenS σ fun d h1 => .rt d h1)
      (fun _ h => .rt .non h) (fun σ h => .nx σ h) (fun σ h => .bk σ h) (fun σ h => .ct σ h)
      (fun c _ _ t e σ h => ((kE G C c).2 σ h).thenS σ fun b h1 => match b with
        | true => t σ h1
        | false => e σ h1)
      (fun c _ b σ h => whileN (kE G C c).2 b loopFuel σ h)
      (fun tg it _ b σ h => (kI G C it σ h).thenS σ fun src h1 => eachN src tg b loopFuel 0 σ h1)
      (fun c es σ h => ((kAs G C es).1 σ h).thenS σ fun ds h1 => match G.exc c with
        | some l => if ds.all fmtOk && Nat.beq ds.length l.length then .exc c (l.zip ds).reverse σ h1 else .bad
        | none => .bad)
      (fun _ c i su b σ h => match b σ h with
        | .exc c' fs σ' h' => if excOk G c' fs && decide (i < σ'.length) then (if G.isx c' c then su.run G c' fs h' else .exc c' fs σ' h') else .bad
        | r => r)
      (fun _ _ => .bad)
      (fun σ h => .nx σ h) (fun _ _ s r σ h => (s σ h).then fun σ1 h1 => r σ1 h1)
noncomputable def kSs : Ss → SX :=
    @Ss.rec (fun _ => SX) (fun _ => SX)
      (fun i e σ h => ((kE G C e).1 σ h).thenS σ fun d h1 => .nx (σ.set i (some d)) h1)
      (fun l e σ h => ((kE G C e).1 σ h).thenS σ fun d h1 => match tgset h1 (.tp l) d σ with
        | some σ' => .nx σ' h1
        | none => .bad)
      (fun o f e σ h => ((kE G C e).1 σ h).thenS σ fun v h1 => ((kE G C o).1 σ h1).thenS σ fun d h2 => (setFop G f d v h2).thenS σ fun _ h3 => .nx σ h3)
      (fun o i e σ h => ((kE G C e).1 σ h).thenS σ fun v h1 => ((kE G C o).1 σ h1).thenS σ fun d h2 => ((kE G C i).1 σ h2).thenS σ fun k h3 => (setIop d k v h3).thenS σ fun _ h4 => .nx σ h4)
      (fun i o e σ h => match σ[i]? with
        | some (some x) => ((kE G C e).1 σ h).thenS σ fun y h1 => match x, y with
          | .int _, .int _ => (binop o x y h1).thenS σ fun z h2 => .nx (σ.set i (some z)) h2
          | _, _ => .bad
        | _ => .bad)
      (fun a f o e σ h => ((kE G C a).1 σ h).thenS σ fun d h1 => (fldop G f d h1).thenS σ fun x h2 => ((kE G C e).1 σ h2).thenS σ fun y h3 => match x, y with
        | .int _, .int _ => if decide (clsOf h1 d = clsOf h3 d) then (binop o x y h3).thenS σ fun z h4 => (setFop G f d z h4).thenS σ fun _ h5 => .nx σ h5 else .bad
        | _, _ => .bad)
      (fun e σ h => ((kE G C e).1 σ h).thenS σ fun _ h1 => .nx σ h1)
      (fun e σ h => ((kE G C e).1 σ h).thenS σ fun d h1 => .rt d h1)
      (fun _ h => .rt .non h) (fun σ h => .nx σ h) (fun σ h => .bk σ h) (fun σ h => .ct σ h)
      (fun c _ _ t e σ h => ((kE G C c).2 σ h).thenS σ fun b h1 => match b with
        | true => t σ h1
        | false => e σ h1)
      (fun c _ b σ h => whileN (kE G C c).2 b loopFuel σ h)
      (fun tg it _ b σ h => (kI G C it σ h).thenS σ fun src h1 => eachN src tg b loopFuel 0 σ h1)
      (fun c es σ h => ((kAs G C es).1 σ h).thenS σ fun ds h1 => match G.exc c with
        | some l => if ds.all fmtOk && Nat.beq ds.length l.length then .exc c (l.zip ds).reverse σ h1 else .bad
        | none => .bad)
      (fun _ c i su b σ h => match b σ h with
        | .exc c' fs σ' h' => if excOk G c' fs && decide (i < σ'.length) then (if G.isx c' c then su.run G c' fs h' else .exc c' fs σ' h') else .bad
        | r => r)
      (fun _ _ => .bad)
      (fun σ h => .nx σ h) (fun _ _ s r σ h => (s σ h).then fun σ1 h1 => r σ1 h1)
mutual
theorem kS_eq : ∀ s : S, kS G C s = evS G C s
  | .set i e => by
    unfold evS
    rw [← kE_eq G C e]
    rfl
  | .unp l e => by
    unfold evS
    rw [← kE_eq G C e]
    rfl
  | .setF o f e => by
    unfold evS
    rw [← kE_eq G C e, ← kE_eq G C o]
    rfl
  | .setI o i e => by
    unfold evS
    rw [← kE_eq G C e, ← kE_eq G C o, ← kE_eq G C i]
    rfl
  | .aug i o e => by
    unfold evS
    rw [← kE_eq G C e]
    rfl
  | .augF a f o e => by
    unfold evS
    rw [← kE_eq G C a, ← kE_eq G C e]
    rfl
  | .expr e => by
    unfold evS
    rw [← kE_eq G C e]
    rfl
  | .ret e => by
    unfold evS
    rw [← kE_eq G C e]
    rfl
  | .retN => by
    unfold evS
    rfl
  | .pass => by
    unfold evS
    rfl
  | .brk => by
    unfold evS
    rfl
  | .cnt => by
    unfold evS
    rfl
  | .cond c t e => by
    unfold evS
    rw [← kE_eq G C c, ← kSs_eq t, ← kSs_eq e]
    rfl
  | .whl c b => by
    unfold evS
    rw [← kE_eq G C c, ← kSs_eq b]
    rfl
  | .each tg it b => by
    unfold evS
    rw [← kI_eq G C it, ← kSs_eq b]
    rfl
  | .raise_ c es => by
    unfold evS
    rw [← kAs_eq G C es]
    rfl
  | .try_ b c i su => by
    unfold evS
    rw [← kSs_eq b]
    rfl
  | .any => by
    unfold evS
    rfl
theorem kSs_eq : ∀ s : Ss, kSs G C s = evSs G C s
  | .nil => by
    unfold evSs
    rfl
  | .cons s r => by
    unfold evSs
    rw [← kS_eq s, ← kSs_eq r]
    rfl
end
noncomputable def kRun (F : Fn) (ds : List D) (h : Hs) : R D := match kSs G C F.body (startD F.ns ds) h with
  | .nx _ h' => .ok .non h'
  | .rt d h' => .ok d h'
  | .exc c fs _ h' => .exc c fs h'
  | _ => .bad
end
noncomputable def callK (G : Gm) (T : Nat → Option Fn) (n : Nat) : Cl :=
  Nat.rec (fun _ _ _ => .bad) (fun _ C f ds h => match T f with
    | some F => if Nat.beq ds.length F.np then kRun G C F ds h else .bad
    | none => .bad) n
theorem callK_eq (G : Gm) (T : Nat → Option Fn) : ∀ n, callK G T n = callN G T n
  | 0 => rfl
  | n + 1 => by
    funext f ds h
    show (match T f with
      | some F => if Nat.beq ds.length F.np then kRun G (callK G T n) F ds h else .bad
      | none => .bad) = (match T f with
      | some F => if Nat.beq ds.length F.np then runFn G (callN G T n) F ds h else .bad
      | none => .bad)
    rw [callK_eq G T n]
    cases T f with
    | none => rfl
    | some F =>
      dsimp only
      unfold kRun runFn
      rw [kSs_eq] <;> rfl
end Z
end
section
set_option Elab.async false
set_option linter.all false
set_option maxRecDepth 100000
set_option maxHeartbeats 1000000
namespace Z
open PySem
/-! ## loops of the evaluator by invariants -/
/-- k turns at most are left -/
theorem while_inv {c : ST} {b : SX} (I : Nat → Ev → Hs → Prop) (Q : Ev → Hs → Prop)
    (step : ∀ k σ h, I k σ h → (∃ h', c σ h = .ok false h' ∧ Q σ h') ∨ (∃ h1 σ' h', c σ h = .ok true h1 ∧ (b σ h1 = .nx σ' h' ∨ b σ h1 = .ct σ' h') ∧ ∃ j, k = j + 1 ∧ I j σ' h')) :
    ∀ k fuel σ h, k < fuel → I k σ h → ∃ σ' h', whileN c b fuel σ h = .nx σ' h' ∧ Q σ' h' := by
  intro k
  induction k with
  | zero =>
    intro fuel σ h hf i
    cases fuel with
    | zero => omega
    | succ fuel =>
      rcases step 0 σ h i with ⟨h', e, q⟩ | ⟨h1, σ', h', e, e2, j, hj, _⟩
      · exact ⟨σ, h', by simp only [whileN, e, R.thenS], q⟩
      · omega
  | succ k ih =>
    intro fuel σ h hf i
    cases fuel with
    | zero => omega
    | succ fuel =>
      rcases step (k + 1) σ h i with ⟨h', e, q⟩ | ⟨h1, σ', h', e, e2, j, hj, ij⟩
      · exact ⟨σ, h', by simp only [whileN, e, R.thenS], q⟩
      · obtain rfl : j = k := by omega
        obtain ⟨σ2, h2, e3, q⟩ := ih fuel σ' h' (by omega) ij
        refine ⟨σ2, h2, ?_, q⟩
        rcases e2 with e2 | e2 <;> simp only [whileN, e, R.thenS, e2, e3]
/-- a for over n items -/
theorem each_inv {src : Src} {tg : Tg} {b : SX} (n : Nat) (I : Nat → Ev → Hs → Prop)
    (step : ∀ i σ h, i < n → I i σ h → ∃ d σ1 σ' h', src.item h i = some (some d) ∧ tgset h tg d σ = some σ1 ∧ (b σ1 h = .nx σ' h' ∨ b σ1 h = .ct σ' h') ∧ I (i + 1) σ' h') (stop : ∀ σ h, I n σ h → src.item h n = some none) :
    ∀ fuel i σ h, i ≤ n → n - i < fuel → I i σ h → ∃ σ' h', eachN src tg b fuel i σ h = .nx σ' h' ∧ I n σ' h' := by
  intro fuel
  induction fuel with
  | zero => intro i σ h _ hf; omega
  | succ fuel ih =>
    intro i σ h hi hf inv
    by_cases he : i = n
    · subst he
      exact ⟨σ, h, by simp only [eachN, stop σ h inv], inv⟩
    · obtain ⟨d, σ1, σ', h', e1, e2, e3, inv'⟩ := step i σ h (by omega) inv
      obtain ⟨σ2, h2, e4, q⟩ := ih (i + 1) σ' h' (by omega) (by omega) inv'
      refine ⟨σ2, h2, ?_, q⟩
      rcases e3 with e3 | e3 <;> simp only [eachN, e1, e2, e3, e4]
/-! ## single steps -/
theorem log_small {n : Nat} (h : n ≤ 1000000000000000) : n.log2 < 60 := by
  by_cases h0 : n = 0
  · subst h0; decide
  · exact (Nat.log2_lt h0).mpr (Nat.lt_of_le_of_lt h (by decide))
theorem add_int (i j : Int) (h : Hs) : binop .add (.int i) (.int j) h = .ok (.int (i + j)) h := rfl
theorem sub_int (i j : Int) (h : Hs) : binop .sub (.int i) (.int j) h = .ok (.int (i - j)) h := rfl
theorem mul_r (i j : Int) (h : Hs) (hj : j.natAbs ≤ 1000000000000000) : binop .mul (.int i) (.int j) h = .ok (.int (i * j)) h := if_pos (.inr (.inl (log_small hj)))
theorem mul_l (i j : Int) (h : Hs) (hi : i.natAbs ≤ 1000000000000000) : binop .mul (.int i) (.int j) h = .ok (.int (i * j)) h := if_pos (.inl (log_small hi))
theorem mod_int (i j : Int) (h : Hs) (hj : 0 < j) : binop .mod (.int i) (.int j) h = .ok (.int (i % j)) h := if_pos hj
theorem fdiv_int (i j : Int) (h : Hs) (hj : 0 < j) (h2 : j.natAbs ≤ 1000000000000000) : binop .fdiv (.int i) (.int j) h = .ok (.int (i / j)) h := if_pos ⟨hj, Nat.lt_trans (log_small h2) (by decide)⟩
theorem pow_int (i : Int) (j : Nat) (h : Hs) (hj : j ≤ 1000000) (h2 : i.natAbs < 2 ^ 64) : binop .pow (.int i) (.int j) h = .ok (.int (i ^ j)) h := by
  show (if 0 ≤ (j : Int) ∧ (j : Int) ≤ 1000000 ∧ i.natAbs < 2 ^ 64 then R.ok (D.int (i ^ (j : Int).toNat)) h else .bad) = _
  rw [if_pos ⟨by omega, by omega, h2⟩]
  rfl
theorem add_str (a b : List Nat) (h : Hs) (hl : a.length + b.length ≤ big) : binop .add (.str a) (.str b) h = .ok (.str (a ++ b)) h := if_pos hl
theorem int_int (i : Int) (h : Hs) : bltop .int [.int i] h = .ok (.int i) h := rfl
theorem int_bl (b : Bool) (h : Hs) : bltop .int [.bl b] h = .ok (.int (if b then 1 else 0)) h := rfl
theorem lt_int (i j : Int) (h : Hs) : cmpv h .lt (.int i) (.int j) = some (decide (i < j)) := rfl
theorem le_int (i j : Int) (h : Hs) : cmpv h .le (.int i) (.int j) = some (decide (i ≤ j)) := rfl
theorem gt_int (i j : Int) (h : Hs) : cmpv h .gt (.int i) (.int j) = some (decide (j < i)) := rfl
theorem ge_int (i j : Int) (h : Hs) : cmpv h .ge (.int i) (.int j) = some (decide (j ≤ i)) := rfl
theorem append_ok {h : Hs} {n : Nat} {ds : List D} {d : D} (g : h.get n = some (.lst ds)) (hl : ds.length < big) : bmop .append (.ref n) [d] h = .ok .non (h.set n (.lst (ds ++ [d]))) := by
  simp only [bmop, g, hl, if_true]
theorem recvL_of {h : Hs} {n : Nat} {ds : List D} (g : h.get n = some (.lst ds)) : recvL h (.ref n) = true := by simp only [recvL, g]
theorem kv_lst {h : Hs} {n : Nat} {ds : List D} (g : h.get n = some (.lst ds)) : kvOf h (.ref n) = none := by simp [kvOf, g]
theorem kv_frz {h : Hs} {n : Nat} {ds : List D} (g : h.get n = some (.frz ds)) : kvOf h (.ref n) = none := by simp [kvOf, g]
theorem seq_lst {h : Hs} {n : Nat} {ds : List D} (g : h.get n = some (.lst ds)) : seqOf h (.ref n) = some ds := by simp [seqOf, g]
theorem seq_frz {h : Hs} {n : Nat} {ds : List D} (g : h.get n = some (.frz ds)) : seqOf h (.ref n) = some ds := by simp [seqOf, g]
theorem len_lst {h : Hs} {n : Nat} {ds : List D} (g : h.get n = some (.lst ds)) : bltop .len [.ref n] h = .ok (.int ds.length) h := by simp only [bltop, kv_lst g, seq_lst g]
theorem at_nat {α : Type} {xs : List α} {k : Nat} {x : α} (g : xs[k]? = some x) : L2.atI xs k = some x := by
  have hk : k < xs.length := (List.getElem?_eq_some_iff.mp g).1
  unfold L2.atI L2.ixN
  rw [if_pos (by omega), if_pos (by omega)]
  simpa using g
theorem idx_lst {h : Hs} {n k : Nat} {ds : List D} {d : D} (g : h.get n = some (.lst ds)) (e : ds[k]? = some d) : idxop (.ref n) (.int k) h = .ok d h := by
  simp only [idxop, kv_lst g, seq_lst g, at_nat e]
theorem cut_nat {α : Type} (l : List α) (i j : Nat) (hi : i ≤ l.length) : cutD l (some (i : Int)) (some (j : Int)) = (l.drop i).take (j - i) := by
  unfold cutD
  rw [HT.sIx_nat, HT.sIx_nat, Nat.min_eq_left hi]
  by_cases h : j ≤ l.length
  · rw [Nat.min_eq_left h]
  · rw [Nat.min_eq_right (by omega), List.take_of_length_le (by rw [List.length_drop]; omega), List.take_of_length_le (by rw [List.length_drop]; omega)]
theorem slc_str {l : List Nat} {i j : Nat} (h : Hs) (hl : l.length ≤ big) (hi : i ≤ l.length) : slcop (.str l) (some (i : Int)) (some (j : Int)) h = .ok (.str ((l.drop i).take (j - i))) h := by
  show (if l.length ≤ big then R.ok (D.str (cutD l (some (i : Int)) (some (j : Int)))) h else .bad) = _
  rw [if_pos hl, cut_nat l i j hi]
theorem idx_str {l : List Nat} {i c : Nat} (h : Hs) (hl : l.length ≤ big) (e : l[i]? = some c) : idxop (.str l) (.int i) h = .ok (.str [c]) h := by
  have hk : kvOf h (.str l) = none := rfl
  simp only [idxop, hk, hl, if_true, at_nat e]
theorem len_str {l : List Nat} (h : Hs) (hl : l.length ≤ big) : bltop .len [.str l] h = .ok (.int l.length) h := if_pos hl
theorem eq_str (a b : List Nat) (h : Hs) : cmpop .eq (.str a) (.str b) h = .ok (.bl (decide (a = b))) h := rfl
theorem ne_str (a b : List Nat) (h : Hs) : cmpop .ne (.str a) (.str b) h = .ok (.bl (!decide (a = b))) h := rfl
theorem eqv_str (a b : List Nat) (h : Hs) : cmpv h .eq (.str a) (.str b) = some (decide (a = b)) := rfl
theorem nev_str (a b : List Nat) (h : Hs) : cmpv h .ne (.str a) (.str b) = some (!decide (a = b)) := rfl
theorem max_int (i j : Int) (h : Hs) : bltop .max [.int i, .int j] h = .ok (.int (if j > i then j else i)) h := rfl
theorem le_str (a b : List Nat) (h : Hs) : cmpv h .le (.str a) (.str b) = some (!decide (b < a)) := rfl
theorem fuel_big : loopFuel = 1000000 := rfl
end Z
end
section
set_option Elab.async false
set_option linter.all false
set_option maxRecDepth 100000
set_option maxHeartbeats 0
namespace K1
open PySem L2 Z
def top (i : Nat) : Stmt := PySem.Challenge.pw_loancheck_k01_faults_of_texts.main.body.getD i (.Pass ⟨0, 0, 0, 0⟩)
def inC : Stmt → List Stmt
  | .ClassDef (body := b) .. => b
  | _ => []
def met (i j : Nat) : Stmt := (inC (top i)).getD j (.Pass ⟨0, 0, 0, 0⟩)
/-- rule_fault -/
def b0 : Ss := (.cons (.try_ (.cons (.expr (.call 1 (.cons (.var 0) .nil))) (.cons (.each (.nm 2) (.rng1 (.blt .len (.cons (.var 0) .nil))) (.cons (.expr (.call 2 (.cons (.var 0) (.cons (.var 2) .nil)))) .nil)) .nil)) 0 1 (.ret (.tup [(.fld 19), (.fld 9), (.fld 18)]))) (.cons (.ret (.con .non)) .nil))
abbrev s0 : Stmt := top 18
def r0 : FRow := ⟨("rule_fault", none), "rule_fault", "rule_fault", s0, ["program", "fault", "number"], ["program"], ⟨1, 3, b0⟩⟩
/-- look_at_names -/
def b1 : Ss := (.cons (.set 1 (.lst .nil)) (.cons (.each (.tp [2, 3]) (.enm (.var 0)) (.cons (.cond (.cmp .ge (.var 2) (.glo 0)) (.cons (.raise_ 2 (.cons (.var 2) (.cons (.con .non) (.cons (.con (.str [116, 111, 111, 32, 109, 97, 110, 121, 32, 102, 117, 110, 99, 116, 105, 111, 110, 115])) .nil)))) .nil) .nil) (.cons (.cond (.cmp .isin (.idx (.var 3) (.con (.int 0))) (.var 1)) (.cons (.raise_ 2 (.cons (.var 2) (.cons (.con .non) (.cons (.fstr (.cons (.con (.str [100, 117, 112, 108, 105, 99, 97, 116, 101, 32, 102, 117, 110, 99, 116, 105, 111, 110, 32])) (.cons (.fmt (.idx (.var 3) (.con (.int 0)))) .nil))) .nil)))) .nil) .nil) (.cons (.expr (.bm .append (.var 1) (.cons (.idx (.var 3) (.con (.int 0))) .nil))) .nil)))) .nil))
abbrev s1 : Stmt := top 19
def r1 : FRow := ⟨("look_at_names", none), "look_at_names", "look_at_names", s1, ["program", "names", "number", "function"], ["program"], ⟨1, 4, b1⟩⟩
/-- look_at_function -/
def b2 : Ss := (.cons (.set 2 (.idx (.idx (.var 0) (.var 1)) (.con (.int 3)))) (.cons (.set 3 .any) (.cons (.expr .any) (.cons (.expr .any) (.cons (.expr .any) (.cons (.cond (.cmp .gt (.blt .len (.cons .any .nil)) (.glo 3)) (.cons (.expr (.meth (.var 3) 1 (.cons (.con (.str [116, 111, 111, 32, 109, 97, 110, 121, 32, 110, 111, 100, 101, 115])) .nil))) .nil) .nil) .nil))))))
abbrev s2 : Stmt := top 20
def r2 : FRow := ⟨("look_at_function", none), "look_at_function", "look_at_function", s2, ["program", "number", "body", "look"], ["program", "number"], ⟨2, 4, b2⟩⟩
/-- parse_text -/
def b3 : Ss := (.cons (.cond (.cmp .gt (.blt .len (.cons (.var 0) .nil)) (.glo 4)) (.cons (.raise_ 1 (.cons (.con (.int 0)) (.cons (.con (.str [116, 101, 120, 116, 32, 116, 111, 111, 32, 108, 111, 110, 103])) .nil))) .nil) .nil) (.cons (.set 1 (.make 5 (.cons (.call 5 (.cons (.var 0) .nil)) .nil))) (.cons (.set 2 (.lst .nil)) (.cons (.whl (.cmp .ne (.meth (.var 1) 0 .nil) (.con (.str []))) (.cons (.expr (.bm .append (.var 2) (.cons (.meth (.var 1) 7 .nil) .nil))) .nil)) (.cons (.cond (.cmp .gt (.fld (.var 1) 13) (.glo 5)) (.cons (.raise_ 1 (.cons (.con (.int 0)) (.cons (.con (.str [98, 108, 111, 99, 107, 115, 32, 116, 111, 111, 32, 100, 101, 101, 112])) .nil))) .nil) .nil) (.cons (.ret (.blt .tuple (.cons (.var 2) .nil))) .nil))))))
abbrev s3 : Stmt := top 28
def r3 : FRow := ⟨("parse_text", none), "parse_text", "parse_text", s3, ["text", "reader", "functions"], ["text"], ⟨1, 3, b3⟩⟩
/-- parse_program -/
def b4 : Ss := (.cons (.set 1 (.call 3 (.cons (.var 0) .nil))) (.cons (.set 2 (.call 0 (.cons (.var 1) .nil))) (.cons (.cond (.cmp .isnot (.var 2) (.con .non)) (.cons (.raise_ 2 (.cons (.idx (.var 2) (.con (.int 0))) (.cons (.idx (.var 2) (.con (.int 1))) (.cons (.idx (.var 2) (.con (.int 2))) .nil)))) .nil) .nil) (.cons (.ret (.var 1)) .nil))))
abbrev s4 : Stmt := top 29
def r4 : FRow := ⟨("parse_program", none), "parse_program", "parse_program", s4, ["text", "program", "fault"], ["text"], ⟨1, 3, b4⟩⟩
/-- split_tokens -/
def b5 : Ss := (.cons (.set 1 (.lst .nil)) (.cons (.set 2 (.con (.int 0))) (.cons (.whl (.cmp .lt (.var 2) (.blt .len (.cons (.var 0) .nil))) (.cons (.set 3 (.call 6 (.cons (.var 0) (.cons (.var 2) .nil)))) (.cons (.cond (.and (.cmp .ne (.idx (.var 0) (.var 2)) (.con (.str [32]))) (.cmp .ne (.idx (.var 0) (.var 2)) (.con (.str [10])))) (.cons (.expr (.bm .append (.var 1) (.cons (.slc (.var 0) (.yes (.var 2)) (.yes (.var 3))) .nil))) .nil) .nil) (.cons (.set 2 (.var 3)) .nil)))) (.cons (.ret (.var 1)) .nil))))
abbrev s5 : Stmt := top 30
def r5 : FRow := ⟨("split_tokens", none), "split_tokens", "split_tokens", s5, ["text", "tokens", "at", "end"], ["text"], ⟨1, 4, b5⟩⟩
/-- token_end -/
def b6 : Ss := (.cons (.cond (.cmp .eq (.slc (.var 0) (.yes (.var 1)) (.yes (.bin .add (.var 1) (.con (.int 2))))) (.con (.str [45, 62]))) (.cons (.ret (.bin .add (.var 1) (.con (.int 2)))) .nil) .nil) (.cons (.set 2 (.var 1)) (.cons (.whl (.and (.cmp .lt (.var 2) (.blt .len (.cons (.var 0) .nil))) (.call 7 (.cons (.idx (.var 0) (.var 2)) .nil))) (.cons (.aug 2 .add (.con (.int 1))) .nil)) (.cons (.ret (.blt .max (.cons (.var 2) (.cons (.bin .add (.var 1) (.con (.int 1))) .nil)))) .nil))))
abbrev s6 : Stmt := top 31
def r6 : FRow := ⟨("token_end", none), "token_end", "token_end", s6, ["text", "at", "end"], ["text", "at"], ⟨2, 3, b6⟩⟩
/-- is_letter -/
def b7 : Ss := (.cons (.ret (.chn .le .le (.con (.str [97])) (.var 0) (.con (.str [122])))) .nil)
abbrev s7 : Stmt := top 32
def r7 : FRow := ⟨("is_letter", none), "is_letter", "is_letter", s7, ["sign"], ["sign"], ⟨1, 1, b7⟩⟩
/-- is_name -/
def b8 : Ss := (.cons (.ret (.and (.call 7 (.cons (.slc (.var 0) .no (.yes (.con (.int 1)))) .nil)) (.and (.cmp .le (.blt .len (.cons (.var 0) .nil)) (.glo 6)) (.cmp .notin (.var 0) (.glo 7))))) .nil)
abbrev s8 : Stmt := top 33
def r8 : FRow := ⟨("is_name", none), "is_name", "is_name", s8, ["token"], ["token"], ⟨1, 1, b8⟩⟩
/-- _law_cell -/
def b9 : Ss := (.cons (.cond (.cmp .lt (.var 1) (.blt .len (.cons (.var 0) .nil))) (.cons (.ret (.idx (.var 0) (.var 1))) .nil) .nil) (.cons (.ret (.con (.int 0))) .nil))
abbrev s9 : Stmt := top 38
def r9 : FRow := ⟨("_law_cell", none), "_law_cell", "_law_cell", s9, ["script", "k"], ["script", "k"], ⟨2, 2, b9⟩⟩
/-- _law_digits -/
def b10 : Ss := (.cons (.set 3 (.lst .nil)) (.cons (.each (.nm 4) (.rng2 (.var 1) (.var 2)) (.cons (.set 5 (.call 9 (.cons (.var 0) (.cons (.var 4) .nil)))) (.cons (.cond (.cmp .lt (.var 5) (.con (.int 0))) (.cons (.set 5 (.bin .sub (.con (.int 1)) (.bin .mul (.con (.int 2)) (.var 5)))) .nil) .nil) (.cons (.cond (.cmp .ge (.var 5) (.bin .pow (.con (.int 10)) (.con (.int 18)))) (.cons (.each (.nm 6) (.rng1 (.con (.int 60))) (.cons (.cond (.cmp .gt (.var 5) (.con (.int 0))) (.cons (.expr (.bm .append (.var 3) (.cons (.bin .mod (.blt .int (.cons (.var 5) .nil)) (.con (.int 1000))) .nil))) (.cons (.set 5 (.bin .fdiv (.var 5) (.con (.int 1000)))) .nil)) .nil) .nil)) .nil) (.cons (.set 7 (.bin .mod (.blt .int (.cons (.bin .add (.bin .add (.bin .mul (.var 5) (.con (.int 48271))) (.bin .mul (.var 4) (.con (.int 69621)))) (.con (.int 11))) .nil)) (.con (.int 2147483647)))) (.cons (.each (.nm 6) (.rng1 (.con (.int 12))) (.cons (.set 7 (.bin .mod (.blt .int (.cons (.bin .add (.bin .add (.bin .mul (.var 7) (.con (.int 16807))) (.bin .mul (.con (.int 7)) (.var 6))) (.con (.int 1))) .nil)) (.con (.int 2147483647)))) (.cons (.expr (.bm .append (.var 3) (.cons (.bin .mod (.blt .int (.cons (.bin .fdiv (.var 7) (.con (.int 997))) .nil)) (.con (.int 1000))) .nil))) .nil))) .nil))) .nil)))) (.cons (.ret (.var 3)) .nil)))
abbrev s10 : Stmt := top 41
def r10 : FRow := ⟨("_law_digits", none), "_law_digits", "_law_digits", s10, ["script", "first", "last", "digits", "k", "cell", "turn", "seed"], ["script", "first", "last"], ⟨3, 8, b10⟩⟩
/-- _law_draw -/
def b11 : Ss := (.cons (.set 2 (.idx (.var 0) (.con (.int 1)))) (.cons (.setI (.var 0) (.con (.int 1)) (.bin .add (.var 2) (.con (.int 1)))) (.cons (.cond (.cmp .lt (.var 2) (.blt .len (.cons (.idx (.var 0) (.con (.int 0))) .nil))) (.cons (.ret (.bin .mod (.blt .int (.cons (.idx (.idx (.var 0) (.con (.int 0))) (.var 2)) .nil)) (.var 1))) .nil) .nil) (.cons (.ret (.bin .mod (.blt .int (.cons (.bin .add (.bin .mul (.var 2) (.con (.int 7))) (.con (.int 3))) .nil)) (.var 1))) .nil))))
abbrev s11 : Stmt := top 42
def r11 : FRow := ⟨("_law_draw", none), "_law_draw", "_law_draw", s11, ["box", "many", "at"], ["box", "many"], ⟨2, 3, b11⟩⟩
/-- _law_rows -/
def b12 : Ss := (.cons (.set 0 (.lst (.cons (.lst (.cons (.con (.str [102, 110])) (.cons (.con (.int 2)) (.cons (.con (.bl true)) .nil)))) (.cons (.lst (.cons (.con (.str [102, 110, 32, 102])) (.cons (.con (.int 3)) (.cons (.con (.bl true)) .nil)))) (.cons (.lst (.cons (.con (.str [102, 110, 32, 102, 40, 97, 41, 32, 123, 32, 125])) (.cons (.con (.int 5)) (.cons (.con (.bl false)) .nil)))) (.cons (.lst (.cons (.con (.str [102, 110, 32, 102, 40, 97, 58, 32, 120, 41, 32, 123, 32, 125])) (.cons (.con (.int 6)) (.cons (.con (.bl false)) .nil)))) (.cons (.lst (.cons (.con (.str [102, 110, 32, 70, 40, 41, 32, 123, 32, 125])) (.cons (.con (.int 2)) (.cons (.con (.bl false)) .nil)))) (.cons (.lst (.cons (.con (.str [102, 110, 32, 102, 40, 41, 32, 45, 62, 32, 123, 32, 125])) (.cons (.con (.int 6)) (.cons (.con (.bl false)) .nil)))) .nil)))))))) (.cons (.set 0 (.bin .add (.var 0) (.lst (.cons (.lst (.cons (.con (.str [102, 110, 32, 102, 40, 41, 32, 45, 32, 111, 119, 110, 32, 123, 32, 125])) (.cons (.con (.int 5)) (.cons (.con (.bl false)) .nil)))) (.cons (.lst (.cons (.con (.str [102, 110, 32, 102, 40, 41, 32, 123])) (.cons (.con (.int 6)) (.cons (.con (.bl true)) .nil)))) (.cons (.lst (.cons (.con (.str [102, 110, 32, 102, 40, 41, 32, 123, 32, 120, 32, 125])) (.cons (.con (.int 7)) (.cons (.con (.bl false)) .nil)))) (.cons (.lst (.cons (.con (.str [102, 110, 32, 102, 40, 41, 32, 123, 32, 108, 101, 116, 32, 61, 32, 110, 101, 119, 59, 32, 125])) (.cons (.con (.int 7)) (.cons (.con (.bl false)) .nil)))) (.cons (.lst (.cons (.con (.str [102, 110, 32, 102, 40, 41, 32, 123, 32, 108, 101, 116, 32, 120, 32, 110, 101, 119, 59, 32, 125])) (.cons (.con (.int 8)) (.cons (.con (.bl false)) .nil)))) .nil)))))))) (.cons (.set 0 (.bin .add (.var 0) (.lst (.cons (.lst (.cons (.con (.str [102, 110, 32, 102, 40, 41, 32, 123, 32, 108, 101, 116, 32, 120, 32, 61, 32, 59, 32, 125])) (.cons (.con (.int 9)) (.cons (.con (.bl false)) .nil)))) (.cons (.lst (.cons (.con (.str [102, 110, 32, 102, 40, 41, 32, 123, 32, 108, 101, 116, 32, 120, 32, 61, 32, 110, 101, 119, 32, 125])) (.cons (.con (.int 10)) (.cons (.con (.bl false)) .nil)))) (.cons (.lst (.cons (.con (.str [102, 110, 32, 102, 40, 41, 32, 123, 32, 114, 101, 97, 100, 59, 32, 125])) (.cons (.con (.int 7)) (.cons (.con (.bl false)) .nil)))) (.cons (.lst (.cons (.con (.str [102, 110, 32, 102, 40, 41, 32, 123, 32, 114, 101, 97, 100, 32, 120, 32, 121, 59, 32, 125])) (.cons (.con (.int 8)) (.cons (.con (.bl false)) .nil)))) .nil))))))) (.cons (.set 0 (.bin .add (.var 0) (.lst (.cons (.lst (.cons (.con (.str [102, 110, 32, 102, 40, 41, 32, 123, 32, 105, 102, 32, 114, 101, 97, 100, 32, 120, 59, 32, 125])) (.cons (.con (.int 7)) (.cons (.con (.bl false)) .nil)))) (.cons (.lst (.cons (.con (.str [102, 110, 32, 102, 40, 41, 32, 123, 32, 105, 102, 32, 123, 32, 125, 32, 101, 108, 115, 101, 32, 114, 101, 97, 100, 32, 120, 59, 32, 125])) (.cons (.con (.int 10)) (.cons (.con (.bl false)) .nil)))) (.cons (.lst (.cons (.con (.str [102, 110, 32, 102, 40, 41, 32, 123, 32, 101, 108, 115, 101, 32, 123, 32, 125, 32, 125])) (.cons (.con (.int 6)) (.cons (.con (.bl false)) .nil)))) (.cons (.lst (.cons (.con (.str [102, 110, 32, 102, 40, 41, 32, 123, 32, 108, 111, 111, 112, 59, 32, 125])) (.cons (.con (.int 7)) (.cons (.con (.bl false)) .nil)))) .nil))))))) (.cons (.set 0 (.bin .add (.var 0) (.lst (.cons (.lst (.cons (.con (.str [102, 110, 32, 102, 40, 41, 32, 123, 32, 98, 114, 101, 97, 107, 32, 120, 59, 32, 125])) (.cons (.con (.int 7)) (.cons (.con (.bl false)) .nil)))) (.cons (.lst (.cons (.con (.str [102, 110, 32, 102, 40, 41, 32, 123, 32, 114, 101, 116, 117, 114, 110, 32, 120, 32, 121, 59, 32, 125])) (.cons (.con (.int 8)) (.cons (.con (.bl false)) .nil)))) (.cons (.lst (.cons (.con (.str [102, 110, 32, 102, 40, 41, 32, 123, 32, 102, 40, 59, 32, 125])) (.cons (.con (.int 8)) (.cons (.con (.bl false)) .nil)))) (.cons (.lst (.cons (.con (.str [102, 110, 32, 102, 40, 41, 32, 123, 32, 102, 40, 120, 44, 41, 59, 32, 125])) (.cons (.con (.int 10)) (.cons (.con (.bl false)) .nil)))) .nil))))))) (.cons (.set 0 (.bin .add (.var 0) (.lst (.cons (.lst (.cons (.con (.str [102, 110, 32, 102, 40, 41, 32, 123, 32, 102, 40, 110, 101, 119, 41, 59, 32, 125])) (.cons (.con (.int 8)) (.cons (.con (.bl false)) .nil)))) (.cons (.lst (.cons (.con (.str [102, 110, 32, 102, 40, 41, 32, 123, 32, 108, 101, 116, 32, 120, 32, 61, 32, 114, 101, 102, 59, 32, 125])) (.cons (.con (.int 10)) (.cons (.con (.bl false)) .nil)))) (.cons (.lst (.cons (.con (.str [102, 110, 32, 102, 40, 41, 32, 123, 32, 108, 101, 116, 32, 120, 32, 61, 32, 114, 101, 102, 32, 110, 101, 119, 59, 32, 125])) (.cons (.con (.int 10)) (.cons (.con (.bl false)) .nil)))) (.cons (.lst (.cons (.con (.str [102, 110, 32, 102, 40, 41, 32, 123, 32, 114, 101, 102, 32, 120, 59, 32, 125])) (.cons (.con (.int 6)) (.cons (.con (.bl false)) .nil)))) .nil))))))) (.cons (.set 0 (.bin .add (.var 0) (.lst (.cons (.lst (.cons (.con (.str [102, 110, 32, 102, 40, 41, 32, 123, 32, 125, 32, 125])) (.cons (.con (.int 7)) (.cons (.con (.bl false)) .nil)))) (.cons (.lst (.cons (.con (.str [120])) (.cons (.con (.int 1)) (.cons (.con (.bl false)) .nil)))) (.cons (.lst (.cons (.con (.str [102, 110, 32, 108, 101, 116, 40, 41, 32, 123, 32, 125])) (.cons (.con (.int 2)) (.cons (.con (.bl false)) .nil)))) (.cons (.lst (.cons (.con (.str [102, 110, 32, 97, 98, 99, 100, 101, 102, 103, 104, 105, 40, 41, 32, 123, 32, 125])) (.cons (.con (.int 2)) (.cons (.con (.bl false)) .nil)))) (.cons (.lst (.cons (.con (.str [102, 110, 32, 102, 40, 41, 32, 123, 32, 114, 101, 97, 100, 32, 120, 49, 59, 32, 125])) (.cons (.con (.int 8)) (.cons (.con (.bl false)) .nil)))) .nil)))))))) (.cons (.set 0 (.bin .add (.var 0) (.lst (.cons (.lst (.cons (.con (.str [102, 110, 32, 102, 40, 97, 58, 32, 111, 119, 110, 32, 98, 58, 32, 111, 119, 110, 41, 32, 123, 32, 125])) (.cons (.con (.int 7)) (.cons (.con (.bl false)) .nil)))) (.cons (.lst (.cons (.con (.str [102, 110, 32, 102, 40, 97, 58, 32, 111, 119, 110, 44, 41, 32, 123, 32, 125])) (.cons (.con (.int 8)) (.cons (.con (.bl false)) .nil)))) (.cons (.lst (.cons (.con (.str [102, 110, 32, 102, 40, 41, 32, 123, 32, 120, 32, 61, 32, 110, 101, 119, 32, 125])) (.cons (.con (.int 9)) (.cons (.con (.bl false)) .nil)))) (.cons (.lst (.cons (.con (.str [102, 110, 32, 102, 40, 41, 32, 123, 32, 120, 40, 121, 41, 32, 125])) (.cons (.con (.int 10)) (.cons (.con (.bl false)) .nil)))) .nil))))))) (.cons (.set 0 (.bin .add (.var 0) (.lst (.cons (.lst (.cons (.con (.str [102, 110, 32, 102, 40, 41, 32, 123, 9, 125])) (.cons (.con (.int 6)) (.cons (.con (.bl false)) .nil)))) (.cons (.lst (.cons (.con (.str [102, 110, 32, 102, 40, 41, 32, 45, 32, 62, 32, 111, 119, 110, 32, 123, 32, 125])) (.cons (.con (.int 5)) (.cons (.con (.bl false)) .nil)))) (.cons (.lst (.cons (.con (.str [102, 110, 32, 102, 40, 41, 32, 123, 32, 108, 101, 116, 32, 97, 98, 99, 100, 101, 102, 103, 104, 105, 32, 61, 32, 110, 101, 119, 59, 32, 125])) (.cons (.con (.int 7)) (.cons (.con (.bl false)) .nil)))) (.cons (.lst (.cons (.con (.str [102, 110, 32, 102, 40, 41, 32, 123, 32, 114, 101, 97, 100, 9, 120, 59, 32, 125])) (.cons (.con (.int 7)) (.cons (.con (.bl false)) .nil)))) .nil))))))) (.cons (.ret (.bin .add (.var 0) (.lst (.cons (.lst (.cons (.con (.str [102, 110, 32, 102, 40, 41, 32, 123, 32, 120, 32, 61, 61, 32, 110, 101, 119, 59, 32, 125])) (.cons (.con (.int 8)) (.cons (.con (.bl false)) .nil)))) (.cons (.lst (.cons (.con (.str [102, 110, 32, 102, 40, 41, 32, 123, 32, 114, 101, 97, 100, 32, 120, 59, 32, 62, 32, 125])) (.cons (.con (.int 9)) (.cons (.con (.bl false)) .nil)))) (.cons (.lst (.cons (.con (.str [102, 110, 32, 102, 40, 41, 32, 123, 32, 108, 111, 111, 112, 32, 123, 32, 125, 32])) (.cons (.con (.int 9)) (.cons (.con (.bl true)) .nil)))) (.cons (.lst (.cons (.con (.str [102, 110, 32, 102, 40, 41, 32, 123, 32, 120, 32, 61, 32, 110, 101, 119])) (.cons (.con (.int 9)) (.cons (.con (.bl true)) .nil)))) .nil))))))) .nil))))))))))
abbrev s12 : Stmt := top 43
def r12 : FRow := ⟨("_law_rows", none), "_law_rows", "_law_rows", s12, ["rows"], [], ⟨0, 1, b12⟩⟩
/-- _law_told -/
def b13 : Ss := (.cons (.try_ (.cons (.expr (.call 3 (.cons (.var 0) .nil))) .nil) 1 1 (.iff [2, 3] (.tup [(.fld 17), (.fld 18)]) (.ret (.tup [(.con (.str [111, 116, 104, 101, 114]))])))) (.cons (.ret (.tup .nil)) .nil))
abbrev s13 : Stmt := top 44
def r13 : FRow := ⟨("_law_told", none), "_law_told", "_law_told", s13, ["text", "e"], ["text"], ⟨1, 2, b13⟩⟩
/-- law -/
def b14 : Ss := (.cons (.set 1 (.lst (.cons (.call 10 (.cons (.var 0) (.cons (.con (.int 0)) (.cons (.con (.int 20)) .nil)))) (.cons (.con (.int 0)) .nil)))) (.cons (.set 2 (.lst (.cons (.lst (.cons (.con (.str [])) (.cons (.con (.int 0)) .nil))) (.cons (.lst (.cons (.con (.str [102, 110, 32, 97, 40, 41, 32, 123, 32, 125, 10])) (.cons (.con (.int 6)) .nil))) (.cons (.lst (.cons (.con (.str [102, 110, 32, 98, 40, 112, 58, 32, 111, 119, 110, 44, 32, 113, 58, 32, 109, 117, 116, 41, 32, 45, 62, 32, 111, 119, 110, 32, 123, 32, 114, 101, 116, 117, 114, 110, 32, 112, 59, 32, 125, 32, 102, 110, 32, 99, 40, 41, 32, 123, 32, 105, 102, 32, 123, 32, 125, 32, 101, 108, 115, 101, 32, 123, 32, 108, 111, 111, 112, 32, 123, 32, 98, 114, 101, 97, 107, 59, 32, 125, 32, 125, 32, 125])) (.cons (.con (.int 35)) .nil))) .nil))))) (.cons (.each (.nm 3) (.rng1 (.con (.int 6))) (.cons (.unp [9, 7] (.idx (.var 2) (.call 11 (.cons (.var 1) (.cons (.con (.int 3)) .nil))))) (.cons (.set 8 (.pcall 12 .nil)) (.cons (.unp [5, 10, 11] (.idx (.var 8) (.bin .mod (.blt .int (.cons (.call 11 (.cons (.var 1) (.cons (.con (.int 900)) .nil))) .nil)) (.blt .len (.cons (.var 8) .nil))))) (.cons (.set 6 (.tup (.cons (.bin .add (.var 7) (.var 10)) (.cons (.idx (.lst (.cons (.con (.str [117, 110, 101, 120, 112, 101, 99, 116, 101, 100, 32, 116, 111, 107, 101, 110])) (.cons (.con (.str [117, 110, 101, 120, 112, 101, 99, 116, 101, 100, 32, 101, 110, 100])) .nil))) (.blt .int (.cons (.var 11) .nil))) .nil)))) (.cons (.cond (.or (.cmp .ne (.pcall 13 (.cons (.bin .add (.var 9) (.var 5)) .nil)) (.var 6)) (.cmp .ne (.pcall 13 (.cons (.var 9) .nil)) (.tup .nil))) (.cons (.ret (.con (.bl false))) .nil) .nil) .nil)))))) (.cons (.set 4 (.bin .add (.con (.int 60)) (.call 11 (.cons (.var 1) (.cons (.con (.int 3)) .nil))))) (.cons (.set 5 (.bin .add (.bin .add (.con (.str [102, 110, 32, 102, 40, 41, 32, 123])) (.bin .mul (.con (.str [105, 102, 32, 123])) (.bin .sub (.var 4) (.con (.int 1))))) (.bin .mul (.con (.str [125])) (.var 4)))) (.cons (.set 6 (.tup .nil)) (.cons (.cond (.cmp .gt (.var 4) (.con (.int 60))) (.cons (.set 6 (.tup (.cons (.con (.int 0)) (.cons (.con (.str [98, 108, 111, 99, 107, 115, 32, 116, 111, 111, 32, 100, 101, 101, 112])) .nil)))) .nil) .nil) (.cons (.cond (.or (.cmp .ne (.pcall 13 (.cons (.var 5) .nil)) (.var 6)) (.or (.cmp .ne (.pcall 13 (.cons (.bin .mul (.con (.str [32])) (.con (.int 1501))) .nil)) (.tup (.cons (.con (.int 0)) (.cons (.con (.str [116, 101, 120, 116, 32, 116, 111, 111, 32, 108, 111, 110, 103])) .nil)))) (.cmp .ne (.pcall 4 (.cons (.bin .mul (.con (.str [32])) (.con (.int 1500))) .nil)) (.tup .nil)))) (.cons (.ret (.con (.bl false))) .nil) .nil) (.cons (.cond (.or (.cmp .ne (.pcall 13 (.cons (.bin .add (.con (.str [102, 110, 32, 70, 40, 41, 32, 123, 32, 125])) (.bin .mul (.con (.str [32])) (.con (.int 1500)))) .nil)) (.tup (.cons (.con (.int 0)) (.cons (.con (.str [116, 101, 120, 116, 32, 116, 111, 111, 32, 108, 111, 110, 103])) .nil)))) (.cmp .ne (.pcall 13 (.cons (.bin .add (.bin .add (.con (.str [102, 110, 32, 102, 40, 41, 32, 123])) (.bin .mul (.con (.str [105, 102, 32, 123])) (.con (.int 70)))) (.con (.str [59]))) .nil)) (.tup (.cons (.bin .add (.con (.int 6)) (.bin .mul (.con (.int 2)) (.con (.int 70)))) (.cons (.con (.str [117, 110, 101, 120, 112, 101, 99, 116, 101, 100, 32, 116, 111, 107, 101, 110])) .nil))))) (.cons (.ret (.con (.bl false))) .nil) .nil) (.cons (.set 7 (.bin .add (.con (.int 1)) (.call 11 (.cons (.var 1) (.cons (.con (.int 497)) .nil))))) (.cons (.ret (.cmp .eq (.pcall 13 (.cons (.bin .add (.con (.str [102, 110, 32, 102, 40, 41, 123])) (.bin .mul (.con (.str [105, 102, 123])) (.var 7))) .nil)) (.tup (.cons (.bin .add (.con (.int 6)) (.bin .mul (.con (.int 2)) (.var 7))) (.cons (.con (.str [117, 110, 101, 120, 112, 101, 99, 116, 101, 100, 32, 101, 110, 100])) .nil))))) .nil)))))))))))
abbrev s14 : Stmt := top 45
def r14 : FRow := ⟨("law", none), "law", "law", s14, ["script", "box", "heads", "turn", "deep", "text", "due", "many", "rows", "head", "token", "ends"], ["script"], ⟨1, 12, b14⟩⟩
/-- Reader.__init__ -/
def b15 : Ss := (.cons (.setF (.var 0) 11 (.var 1)) (.cons (.setF (.var 0) 12 (.con (.int 0))) (.cons (.setF (.var 0) 13 (.con (.int 0))) .nil)))
abbrev s15 : Stmt := met 34 0
def r15 : FRow := ⟨("Reader", some ("__init__" : Str)), "__init__", "Reader.__init__", s15, ["self", "tokens"], ["self", "tokens"], ⟨2, 2, b15⟩⟩
/-- Reader.coming -/
def b16 : Ss := (.cons (.cond (.cmp .lt (.fld (.var 0) 12) (.blt .len (.cons (.fld (.var 0) 11) .nil))) (.cons (.ret (.idx (.fld (.var 0) 11) (.fld (.var 0) 12))) .nil) .nil) (.cons (.ret (.con (.str []))) .nil))
abbrev s16 : Stmt := met 34 1
def r16 : FRow := ⟨("Reader", some ("coming" : Str)), "coming", "Reader.coming", s16, ["self"], ["self"], ⟨1, 1, b16⟩⟩
/-- Reader.refuse -/
def b17 : Ss := (.cons (.cond (.cmp .lt (.fld (.var 0) 12) (.blt .len (.cons (.fld (.var 0) 11) .nil))) (.cons (.raise_ 1 (.cons (.bin .add (.fld (.var 0) 12) (.con (.int 1))) (.cons (.con (.str [117, 110, 101, 120, 112, 101, 99, 116, 101, 100, 32, 116, 111, 107, 101, 110])) .nil))) .nil) .nil) (.cons (.raise_ 1 (.cons (.bin .add (.blt .len (.cons (.fld (.var 0) 11) .nil)) (.con (.int 1))) (.cons (.con (.str [117, 110, 101, 120, 112, 101, 99, 116, 101, 100, 32, 101, 110, 100])) .nil))) .nil))
abbrev s17 : Stmt := met 34 2
def r17 : FRow := ⟨("Reader", some ("refuse" : Str)), "refuse", "Reader.refuse", s17, ["self"], ["self"], ⟨1, 1, b17⟩⟩
/-- Reader.take -/
def b18 : Ss := (.cons (.set 1 (.meth (.var 0) 0 .nil)) (.cons (.augF (.var 0) 12 .add (.con (.int 1))) (.cons (.ret (.var 1)) .nil)))
abbrev s18 : Stmt := met 34 3
def r18 : FRow := ⟨("Reader", some ("take" : Str)), "take", "Reader.take", s18, ["self", "token"], ["self"], ⟨1, 2, b18⟩⟩
/-- Reader.skip -/
def b19 : Ss := (.cons (.cond (.cmp .ne (.meth (.var 0) 0 .nil) (.var 1)) (.cons (.ret (.con (.bl false))) .nil) .nil) (.cons (.augF (.var 0) 12 .add (.con (.int 1))) (.cons (.ret (.con (.bl true))) .nil)))
abbrev s19 : Stmt := met 34 4
def r19 : FRow := ⟨("Reader", some ("skip" : Str)), "skip", "Reader.skip", s19, ["self", "token"], ["self", "token"], ⟨2, 2, b19⟩⟩
/-- Reader.expect -/
def b20 : Ss := (.cons (.cond (.not (.meth (.var 0) 3 (.cons (.var 1) .nil))) (.cons (.expr (.meth (.var 0) 1 .nil)) .nil) .nil) .nil)
abbrev s20 : Stmt := met 34 5
def r20 : FRow := ⟨("Reader", some ("expect" : Str)), "expect", "Reader.expect", s20, ["self", "token"], ["self", "token"], ⟨2, 2, b20⟩⟩
/-- Reader.read_name -/
def b21 : Ss := (.cons (.cond (.not (.call 8 (.cons (.meth (.var 0) 0 .nil) .nil))) (.cons (.expr (.meth (.var 0) 1 .nil)) .nil) .nil) (.cons (.ret (.meth (.var 0) 2 .nil)) .nil))
abbrev s21 : Stmt := met 34 6
def r21 : FRow := ⟨("Reader", some ("read_name" : Str)), "read_name", "Reader.read_name", s21, ["self"], ["self"], ⟨1, 1, b21⟩⟩
/-- Reader.read_kind -/
def b22 : Ss := (.cons (.cond (.cmp .notin (.meth (.var 0) 0 .nil) (.glo 8)) (.cons (.expr (.meth (.var 0) 1 .nil)) .nil) .nil) (.cons (.ret (.meth (.var 0) 2 .nil)) .nil))
abbrev s22 : Stmt := met 34 7
def r22 : FRow := ⟨("Reader", some ("read_kind" : Str)), "read_kind", "Reader.read_kind", s22, ["self"], ["self"], ⟨1, 1, b22⟩⟩
/-- Reader.read_function -/
def b23 : Ss := (.cons (.expr (.meth (.var 0) 4 (.cons (.con (.str [102, 110])) .nil))) (.cons (.set 1 (.meth (.var 0) 5 .nil)) (.cons (.set 2 (.meth (.var 0) 8 .nil)) (.cons (.set 3 (.con .non)) (.cons (.cond (.meth (.var 0) 3 (.cons (.con (.str [45, 62])) .nil)) (.cons (.set 3 (.meth (.var 0) 6 .nil)) .nil) .nil) (.cons (.ret (.tup (.cons (.var 1) (.cons (.var 2) (.cons (.var 3) (.cons (.meth (.var 0) 10 .nil) .nil)))))) .nil))))))
abbrev s23 : Stmt := met 34 8
def r23 : FRow := ⟨("Reader", some ("read_function" : Str)), "read_function", "Reader.read_function", s23, ["self", "name", "parameters", "result"], ["self"], ⟨1, 4, b23⟩⟩
/-- Reader.read_parameters -/
def b24 : Ss := (.cons (.expr (.meth (.var 0) 4 (.cons (.con (.str [40])) .nil))) (.cons (.set 1 (.lst .nil)) (.cons (.cond (.meth (.var 0) 3 (.cons (.con (.str [41])) .nil)) (.cons (.ret (.tup .nil)) .nil) .nil) (.cons (.expr (.bm .append (.var 1) (.cons (.meth (.var 0) 9 .nil) .nil))) (.cons (.whl (.meth (.var 0) 3 (.cons (.con (.str [44])) .nil)) (.cons (.expr (.bm .append (.var 1) (.cons (.meth (.var 0) 9 .nil) .nil))) .nil)) (.cons (.expr (.meth (.var 0) 4 (.cons (.con (.str [41])) .nil))) (.cons (.ret (.blt .tuple (.cons (.var 1) .nil))) .nil)))))))
abbrev s24 : Stmt := met 34 9
def r24 : FRow := ⟨("Reader", some ("read_parameters" : Str)), "read_parameters", "Reader.read_parameters", s24, ["self", "parameters"], ["self"], ⟨1, 2, b24⟩⟩
/-- Reader.read_parameter -/
def b25 : Ss := (.cons (.set 1 (.meth (.var 0) 5 .nil)) (.cons (.expr (.meth (.var 0) 4 (.cons (.con (.str [58])) .nil))) (.cons (.ret (.tup (.cons (.var 1) (.cons (.meth (.var 0) 6 .nil) .nil)))) .nil)))
abbrev s25 : Stmt := met 34 10
def r25 : FRow := ⟨("Reader", some ("read_parameter" : Str)), "read_parameter", "Reader.read_parameter", s25, ["self", "name"], ["self"], ⟨1, 2, b25⟩⟩
/-- Reader.read_body -/
def b26 : Ss := (.cons (.expr (.meth (.var 0) 4 (.cons (.con (.str [123])) .nil))) (.cons (.set 1 (.lst (.cons (.make 6 (.cons (.con (.str [98, 111, 100, 121])) (.cons (.tup .nil) .nil))) .nil))) (.cons (.whl (.con (.bl true)) (.cons (.setF (.var 0) 13 (.blt .max (.cons (.fld (.var 0) 13) (.cons (.blt .len (.cons (.var 1) .nil)) .nil)))) (.cons (.set 2 (.idx (.var 1) (.con (.int (-1))))) (.cons (.cond (.meth (.var 0) 3 (.cons (.con (.str [125])) .nil)) (.cons (.expr (.bm .pop (.var 1) .nil)) (.cons (.cond (.not (.var 1)) (.cons (.ret (.blt .tuple (.cons (.fld (.var 2) 16) .nil))) .nil) .nil) (.cons (.expr (.meth (.var 0) 11 (.cons (.var 2) (.cons (.var 1) .nil)))) .nil))) (.cons (.cond (.cmp .isin (.meth (.var 0) 0 .nil) (.tup (.cons (.con (.str [105, 102])) (.cons (.con (.str [108, 111, 111, 112])) .nil)))) (.cons (.set 3 (.meth (.var 0) 2 .nil)) (.cons (.expr (.meth (.var 0) 4 (.cons (.con (.str [123])) .nil))) (.cons (.expr (.bm .append (.var 1) (.cons (.make 6 (.cons (.var 3) (.cons (.tup .nil) .nil))) .nil))) .nil))) (.cons (.expr (.bm .append (.fld (.var 2) 16) (.cons (.meth (.var 0) 12 .nil) .nil))) .nil)) .nil)) .nil)))) .nil)))
abbrev s26 : Stmt := met 34 11
def r26 : FRow := ⟨("Reader", some ("read_body" : Str)), "read_body", "Reader.read_body", s26, ["self", "blocks", "block", "word"], ["self"], ⟨1, 4, b26⟩⟩
/-- Reader.close_block -/
def b27 : Ss := (.cons (.set 3 (.blt .tuple (.cons (.fld (.var 1) 16) .nil))) (.cons (.set 4 (.fld (.idx (.var 2) (.con (.int (-1)))) 16)) (.cons (.cond (.cmp .eq (.fld (.var 1) 14) (.con (.str [108, 111, 111, 112]))) (.cons (.expr (.bm .append (.var 4) (.cons (.tup (.cons (.con (.str [108, 111, 111, 112])) (.cons (.var 3) .nil))) .nil))) .nil) (.cons (.cond (.cmp .eq (.fld (.var 1) 14) (.con (.str [101, 108, 115, 101]))) (.cons (.expr (.bm .append (.var 4) (.cons (.tup (.cons (.con (.str [105, 102])) (.cons (.fld (.var 1) 15) (.cons (.var 3) .nil)))) .nil))) .nil) (.cons (.cond (.meth (.var 0) 3 (.cons (.con (.str [101, 108, 115, 101])) .nil)) (.cons (.expr (.meth (.var 0) 4 (.cons (.con (.str [123])) .nil))) (.cons (.expr (.bm .append (.var 2) (.cons (.make 6 (.cons (.con (.str [101, 108, 115, 101])) (.cons (.var 3) .nil))) .nil))) .nil)) (.cons (.expr (.bm .append (.var 4) (.cons (.tup (.cons (.con (.str [105, 102])) (.cons (.var 3) (.cons (.con .non) .nil)))) .nil))) .nil)) .nil)) .nil)) .nil)))
abbrev s27 : Stmt := met 34 12
def r27 : FRow := ⟨("Reader", some ("close_block" : Str)), "close_block", "Reader.close_block", s27, ["self", "block", "blocks", "inside", "around"], ["self", "block", "blocks"], ⟨3, 5, b27⟩⟩
/-- Reader.read_statement -/
def b28 : Ss := (.cons (.set 1 (.meth (.var 0) 0 .nil)) (.cons (.cond (.cmp .eq (.var 1) (.con (.str [108, 101, 116]))) (.cons (.set 2 (.meth (.var 0) 13 .nil)) .nil) (.cons (.cond (.cmp .isin (.var 1) (.tup (.cons (.con (.str [114, 101, 97, 100])) (.cons (.con (.str [119, 114, 105, 116, 101])) (.cons (.con (.str [100, 114, 111, 112])) .nil))))) (.cons (.set 2 (.tup (.cons (.meth (.var 0) 2 .nil) (.cons (.meth (.var 0) 5 .nil) .nil)))) .nil) (.cons (.cond (.cmp .isin (.var 1) (.tup (.cons (.con (.str [98, 114, 101, 97, 107])) (.cons (.con (.str [99, 111, 110, 116, 105, 110, 117, 101])) .nil)))) (.cons (.set 2 (.tup (.cons (.meth (.var 0) 2 .nil) .nil))) .nil) (.cons (.cond (.cmp .eq (.var 1) (.con (.str [114, 101, 116, 117, 114, 110]))) (.cons (.set 2 (.meth (.var 0) 14 .nil)) .nil) (.cons (.set 2 (.meth (.var 0) 15 .nil)) .nil)) .nil)) .nil)) .nil)) (.cons (.expr (.meth (.var 0) 4 (.cons (.con (.str [59])) .nil))) (.cons (.ret (.var 2)) .nil))))
abbrev s28 : Stmt := met 34 13
def r28 : FRow := ⟨("Reader", some ("read_statement" : Str)), "read_statement", "Reader.read_statement", s28, ["self", "word", "statement"], ["self"], ⟨1, 3, b28⟩⟩
/-- Reader.read_let -/
def b29 : Ss := (.cons (.expr (.meth (.var 0) 4 (.cons (.con (.str [108, 101, 116])) .nil))) (.cons (.set 1 (.meth (.var 0) 5 .nil)) (.cons (.expr (.meth (.var 0) 4 (.cons (.con (.str [61])) .nil))) (.cons (.ret (.tup (.cons (.con (.str [108, 101, 116])) (.cons (.var 1) (.cons (.meth (.var 0) 16 .nil) .nil))))) .nil))))
abbrev s29 : Stmt := met 34 14
def r29 : FRow := ⟨("Reader", some ("read_let" : Str)), "read_let", "Reader.read_let", s29, ["self", "name"], ["self"], ⟨1, 2, b29⟩⟩
/-- Reader.read_return -/
def b30 : Ss := (.cons (.expr (.meth (.var 0) 4 (.cons (.con (.str [114, 101, 116, 117, 114, 110])) .nil))) (.cons (.cond (.cmp .eq (.meth (.var 0) 0 .nil) (.con (.str [59]))) (.cons (.ret (.tup (.cons (.con (.str [114, 101, 116, 117, 114, 110])) (.cons (.con .non) .nil)))) .nil) .nil) (.cons (.ret (.tup (.cons (.con (.str [114, 101, 116, 117, 114, 110])) (.cons (.meth (.var 0) 5 .nil) .nil)))) .nil)))
abbrev s30 : Stmt := met 34 15
def r30 : FRow := ⟨("Reader", some ("read_return" : Str)), "read_return", "Reader.read_return", s30, ["self"], ["self"], ⟨1, 1, b30⟩⟩
/-- Reader.read_call_or_set -/
def b31 : Ss := (.cons (.set 1 (.meth (.var 0) 5 .nil)) (.cons (.cond (.cmp .eq (.meth (.var 0) 0 .nil) (.con (.str [40]))) (.cons (.ret (.tup (.cons (.con (.str [99, 97, 108, 108])) (.cons (.var 1) (.cons (.meth (.var 0) 18 .nil) .nil))))) .nil) .nil) (.cons (.expr (.meth (.var 0) 4 (.cons (.con (.str [61])) .nil))) (.cons (.ret (.tup (.cons (.con (.str [115, 101, 116])) (.cons (.var 1) (.cons (.meth (.var 0) 16 .nil) .nil))))) .nil))))
abbrev s31 : Stmt := met 34 16
def r31 : FRow := ⟨("Reader", some ("read_call_or_set" : Str)), "read_call_or_set", "Reader.read_call_or_set", s31, ["self", "name"], ["self"], ⟨1, 2, b31⟩⟩
/-- Reader.read_expression -/
def b32 : Ss := (.cons (.cond (.meth (.var 0) 3 (.cons (.con (.str [110, 101, 119])) .nil)) (.cons (.ret (.tup (.cons (.con (.str [110, 101, 119])) .nil))) .nil) .nil) (.cons (.set 1 (.meth (.var 0) 17 .nil)) (.cons (.cond (.and (.cmp .eq (.idx (.var 1) (.con (.int 0))) (.con (.str [110, 97, 109, 101]))) (.cmp .eq (.meth (.var 0) 0 .nil) (.con (.str [40])))) (.cons (.ret (.tup (.cons (.con (.str [99, 97, 108, 108])) (.cons (.idx (.var 1) (.con (.int 1))) (.cons (.meth (.var 0) 18 .nil) .nil))))) .nil) .nil) (.cons (.ret (.var 1)) .nil))))
abbrev s32 : Stmt := met 34 17
def r32 : FRow := ⟨("Reader", some ("read_expression" : Str)), "read_expression", "Reader.read_expression", s32, ["self", "argument"], ["self"], ⟨1, 2, b32⟩⟩
/-- Reader.read_argument -/
def b33 : Ss := (.cons (.cond (.cmp .isin (.meth (.var 0) 0 .nil) (.tup (.cons (.con (.str [114, 101, 102])) (.cons (.con (.str [109, 117, 116])) .nil)))) (.cons (.ret (.tup (.cons (.meth (.var 0) 2 .nil) (.cons (.meth (.var 0) 5 .nil) .nil)))) .nil) .nil) (.cons (.ret (.tup (.cons (.con (.str [110, 97, 109, 101])) (.cons (.meth (.var 0) 5 .nil) .nil)))) .nil))
abbrev s33 : Stmt := met 34 18
def r33 : FRow := ⟨("Reader", some ("read_argument" : Str)), "read_argument", "Reader.read_argument", s33, ["self"], ["self"], ⟨1, 1, b33⟩⟩
/-- Reader.read_arguments -/
def b34 : Ss := (.cons (.expr (.meth (.var 0) 4 (.cons (.con (.str [40])) .nil))) (.cons (.cond (.meth (.var 0) 3 (.cons (.con (.str [41])) .nil)) (.cons (.ret (.tup .nil)) .nil) .nil) (.cons (.set 1 (.lst (.cons (.meth (.var 0) 17 .nil) .nil))) (.cons (.whl (.meth (.var 0) 3 (.cons (.con (.str [44])) .nil)) (.cons (.expr (.bm .append (.var 1) (.cons (.meth (.var 0) 17 .nil) .nil))) .nil)) (.cons (.expr (.meth (.var 0) 4 (.cons (.con (.str [41])) .nil))) (.cons (.ret (.blt .tuple (.cons (.var 1) .nil))) .nil))))))
abbrev s34 : Stmt := met 34 19
def r34 : FRow := ⟨("Reader", some ("read_arguments" : Str)), "read_arguments", "Reader.read_arguments", s34, ["self", "arguments"], ["self"], ⟨1, 2, b34⟩⟩
/-- OpenBlock.__init__ -/
def b35 : Ss := (.cons (.setF (.var 0) 14 (.var 1)) (.cons (.setF (.var 0) 15 (.var 2)) (.cons (.setF (.var 0) 16 (.lst .nil)) .nil)))
abbrev s35 : Stmt := met 35 0
def r35 : FRow := ⟨("OpenBlock", some ("__init__" : Str)), "__init__", "OpenBlock.__init__", s35, ["self", "word", "first"], ["self", "word", "first"], ⟨3, 3, b35⟩⟩
abbrev xs0 : Stmt := met 2 0
def x0 : XRow := ⟨1, "BadText.__init__", xs0, ["self", "token", "reason"], 0, [17, 18]⟩
abbrev xs1 : Stmt := met 3 0
def x1 : XRow := ⟨2, "BadRule.__init__", xs1, ["self", "function", "statement", "reason"], 0, [19, 9, 18]⟩
def pk : Pk where
  rows := [r0, r1, r2, r3, r4, r5, r6, r7, r8, r9, r10, r11, r12, r13, r14, r15, r16, r17, r18, r19, r20, r21, r22, r23, r24, r25, r26, r27, r28, r29, r30, r31, r32, r33, r34, r35]
  cnames := ["LoanError", "BadText", "BadRule", "Sketch", "FunctionLook", "Reader", "OpenBlock"]
  insts := [3, 4, 5, 6]
  flds := ["kinds", "results", "rows", "marks", "scope", "loops", "number", "heads", "result", "statement", "begun", "tokens", "at", "deepest", "word", "first", "statements", "token", "reason", "function"]
  mnames := ["coming", "refuse", "take", "skip", "expect", "read_name", "read_kind", "read_function", "read_parameters", "read_parameter", "read_body", "close_block", "read_statement", "read_let", "read_return", "read_call_or_set", "read_expression", "read_argument", "read_arguments"]
  gl := [("MOST_FUNCTIONS", (.int 5)), ("MOST_PARAMETERS", (.int 3)), ("MOST_VARIABLES", (.int 8)), ("MOST_NODES", (.int 60)), ("LONGEST_TEXT", (.int 1500)), ("DEEPEST_BLOCK", (.int 60)), ("LONGEST_NAME", (.int 8)), ("WORDS", (.tup [(.str [102, 110]), (.str [111, 119, 110]), (.str [114, 101, 102]), (.str [109, 117, 116]), (.str [108, 101, 116]), (.str [110, 101, 119]), (.str [114, 101, 97, 100]), (.str [119, 114, 105, 116, 101]), (.str [100, 114, 111, 112]), (.str [105, 102]), (.str [101, 108, 115, 101]), (.str [108, 111, 111, 112]), (.str [98, 114, 101, 97, 107]), (.str [99, 111, 110, 116, 105, 110, 117, 101]), (.str [114, 101, 116, 117, 114, 110])])), ("KINDS", (.tup [(.str [111, 119, 110]), (.str [114, 101, 102]), (.str [109, 117, 116])]))]
  meths := [((5, 0), 16), ((5, 1), 17), ((5, 2), 18), ((5, 3), 19), ((5, 4), 20), ((5, 5), 21), ((5, 6), 22), ((5, 7), 23), ((5, 8), 24), ((5, 9), 25), ((5, 10), 26), ((5, 11), 27), ((5, 12), 28), ((5, 13), 29), ((5, 14), 30), ((5, 15), 31), ((5, 16), 32), ((5, 17), 33), ((5, 18), 34)]
  inits := [(5, 15), (6, 35)]
  hasF := [(3, 0), (3, 1), (3, 2), (3, 3), (3, 4), (3, 5), (4, 6), (4, 7), (4, 1), (4, 8), (4, 9), (4, 10), (4, 0), (4, 4), (4, 5), (5, 11), (5, 12), (5, 13), (6, 14), (6, 15), (6, 16)]
  excs := [x0, x1]
  xnames := [("BadRule", true), ("LoanError", true), ("BadText", true), ("ValueError", false)]
  isx := [(0, 1), (0, 3), (1, 1), (1, 2), (1, 3), (2, 0), (2, 1), (2, 3)]
theorem bp0 : BindP r0.name r0.qual r0.st r0.ps := fun _ _ _ _ _ _ us hl => match us, hl with | [_], _ => rfl
theorem bp1 : BindP r1.name r1.qual r1.st r1.ps := fun _ _ _ _ _ _ us hl => match us, hl with | [_], _ => rfl
theorem bp2 : BindP r2.name r2.qual r2.st r2.ps := fun _ _ _ _ _ _ us hl => match us, hl with | [_, _], _ => rfl
theorem bp3 : BindP r3.name r3.qual r3.st r3.ps := fun _ _ _ _ _ _ us hl => match us, hl with | [_], _ => rfl
theorem bp4 : BindP r4.name r4.qual r4.st r4.ps := fun _ _ _ _ _ _ us hl => match us, hl with | [_], _ => rfl
theorem bp5 : BindP r5.name r5.qual r5.st r5.ps := fun _ _ _ _ _ _ us hl => match us, hl with | [_], _ => rfl
theorem bp6 : BindP r6.name r6.qual r6.st r6.ps := fun _ _ _ _ _ _ us hl => match us, hl with | [_, _], _ => rfl
theorem bp7 : BindP r7.name r7.qual r7.st r7.ps := fun _ _ _ _ _ _ us hl => match us, hl with | [_], _ => rfl
theorem bp8 : BindP r8.name r8.qual r8.st r8.ps := fun _ _ _ _ _ _ us hl => match us, hl with | [_], _ => rfl
theorem bp9 : BindP r9.name r9.qual r9.st r9.ps := fun _ _ _ _ _ _ us hl => match us, hl with | [_, _], _ => rfl
theorem bp10 : BindP r10.name r10.qual r10.st r10.ps := fun _ _ _ _ _ _ us hl => match us, hl with | [_, _, _], _ => rfl
theorem bp11 : BindP r11.name r11.qual r11.st r11.ps := fun _ _ _ _ _ _ us hl => match us, hl with | [_, _], _ => rfl
theorem bp12 : BindP r12.name r12.qual r12.st r12.ps := fun _ _ _ _ _ _ us hl => match us, hl with | [], _ => rfl
theorem bp13 : BindP r13.name r13.qual r13.st r13.ps := fun _ _ _ _ _ _ us hl => match us, hl with | [_], _ => rfl
theorem bp14 : BindP r14.name r14.qual r14.st r14.ps := fun _ _ _ _ _ _ us hl => match us, hl with | [_], _ => rfl
theorem bp15 : BindP r15.name r15.qual r15.st r15.ps := fun _ _ _ _ _ _ us hl => match us, hl with | [_, _], _ => rfl
theorem bp16 : BindP r16.name r16.qual r16.st r16.ps := fun _ _ _ _ _ _ us hl => match us, hl with | [_], _ => rfl
theorem bp17 : BindP r17.name r17.qual r17.st r17.ps := fun _ _ _ _ _ _ us hl => match us, hl with | [_], _ => rfl
theorem bp18 : BindP r18.name r18.qual r18.st r18.ps := fun _ _ _ _ _ _ us hl => match us, hl with | [_], _ => rfl
theorem bp19 : BindP r19.name r19.qual r19.st r19.ps := fun _ _ _ _ _ _ us hl => match us, hl with | [_, _], _ => rfl
theorem bp20 : BindP r20.name r20.qual r20.st r20.ps := fun _ _ _ _ _ _ us hl => match us, hl with | [_, _], _ => rfl
theorem bp21 : BindP r21.name r21.qual r21.st r21.ps := fun _ _ _ _ _ _ us hl => match us, hl with | [_], _ => rfl
theorem bp22 : BindP r22.name r22.qual r22.st r22.ps := fun _ _ _ _ _ _ us hl => match us, hl with | [_], _ => rfl
theorem bp23 : BindP r23.name r23.qual r23.st r23.ps := fun _ _ _ _ _ _ us hl => match us, hl with | [_], _ => rfl
theorem bp24 : BindP r24.name r24.qual r24.st r24.ps := fun _ _ _ _ _ _ us hl => match us, hl with | [_], _ => rfl
theorem bp25 : BindP r25.name r25.qual r25.st r25.ps := fun _ _ _ _ _ _ us hl => match us, hl with | [_], _ => rfl
theorem bp26 : BindP r26.name r26.qual r26.st r26.ps := fun _ _ _ _ _ _ us hl => match us, hl with | [_], _ => rfl
theorem bp27 : BindP r27.name r27.qual r27.st r27.ps := fun _ _ _ _ _ _ us hl => match us, hl with | [_, _, _], _ => rfl
theorem bp28 : BindP r28.name r28.qual r28.st r28.ps := fun _ _ _ _ _ _ us hl => match us, hl with | [_], _ => rfl
theorem bp29 : BindP r29.name r29.qual r29.st r29.ps := fun _ _ _ _ _ _ us hl => match us, hl with | [_], _ => rfl
theorem bp30 : BindP r30.name r30.qual r30.st r30.ps := fun _ _ _ _ _ _ us hl => match us, hl with | [_], _ => rfl
theorem bp31 : BindP r31.name r31.qual r31.st r31.ps := fun _ _ _ _ _ _ us hl => match us, hl with | [_], _ => rfl
theorem bp32 : BindP r32.name r32.qual r32.st r32.ps := fun _ _ _ _ _ _ us hl => match us, hl with | [_], _ => rfl
theorem bp33 : BindP r33.name r33.qual r33.st r33.ps := fun _ _ _ _ _ _ us hl => match us, hl with | [_], _ => rfl
theorem bp34 : BindP r34.name r34.qual r34.st r34.ps := fun _ _ _ _ _ _ us hl => match us, hl with | [_], _ => rfl
theorem bp35 : BindP r35.name r35.qual r35.st r35.ps := fun _ _ _ _ _ _ us hl => match us, hl with | [_, _, _], _ => rfl
theorem xp0 : BindP "__init__" x0.qual x0.st x0.nm := fun _ _ _ _ _ _ us hl => match us, hl with | [_, _, _], _ => rfl
theorem xp1 : BindP "__init__" x1.qual x1.st x1.nm := fun _ _ _ _ _ _ us hl => match us, hl with | [_, _, _, _], _ => rfl
theorem bps : ∀ r ∈ pk.rows, BindP r.name r.qual r.st r.ps := List.forall_mem_cons.mpr ⟨bp0, List.forall_mem_cons.mpr ⟨bp1, List.forall_mem_cons.mpr ⟨bp2, List.forall_mem_cons.mpr ⟨bp3, List.forall_mem_cons.mpr ⟨bp4, List.forall_mem_cons.mpr ⟨bp5, List.forall_mem_cons.mpr ⟨bp6, List.forall_mem_cons.mpr ⟨bp7, List.forall_mem_cons.mpr ⟨bp8, List.forall_mem_cons.mpr ⟨bp9, List.forall_mem_cons.mpr ⟨bp10, List.forall_mem_cons.mpr ⟨bp11, List.forall_mem_cons.mpr ⟨bp12, List.forall_mem_cons.mpr ⟨bp13, List.forall_mem_cons.mpr ⟨bp14, List.forall_mem_cons.mpr ⟨bp15, List.forall_mem_cons.mpr ⟨bp16, List.forall_mem_cons.mpr ⟨bp17, List.forall_mem_cons.mpr ⟨bp18, List.forall_mem_cons.mpr ⟨bp19, List.forall_mem_cons.mpr ⟨bp20, List.forall_mem_cons.mpr ⟨bp21, List.forall_mem_cons.mpr ⟨bp22, List.forall_mem_cons.mpr ⟨bp23, List.forall_mem_cons.mpr ⟨bp24, List.forall_mem_cons.mpr ⟨bp25, List.forall_mem_cons.mpr ⟨bp26, List.forall_mem_cons.mpr ⟨bp27, List.forall_mem_cons.mpr ⟨bp28, List.forall_mem_cons.mpr ⟨bp29, List.forall_mem_cons.mpr ⟨bp30, List.forall_mem_cons.mpr ⟨bp31, List.forall_mem_cons.mpr ⟨bp32, List.forall_mem_cons.mpr ⟨bp33, List.forall_mem_cons.mpr ⟨bp34, List.forall_mem_cons.mpr ⟨bp35, fun _ h => absurd h List.not_mem_nil⟩⟩⟩⟩⟩⟩⟩⟩⟩⟩⟩⟩⟩⟩⟩⟩⟩⟩⟩⟩⟩⟩⟩⟩⟩⟩⟩⟩⟩⟩⟩⟩⟩⟩⟩⟩
theorem xps : ∀ x ∈ pk.excs, BindP "__init__" x.qual x.st x.nm := List.forall_mem_cons.mpr ⟨xp0, List.forall_mem_cons.mpr ⟨xp1, fun _ h => absurd h List.not_mem_nil⟩⟩
theorem rb0 : pk.rowB r0 = true := by decide +kernel
theorem rb1 : pk.rowB r1 = true := by decide +kernel
theorem rb2 : pk.rowB r2 = true := by decide +kernel
theorem rb3 : pk.rowB r3 = true := by decide +kernel
theorem rb4 : pk.rowB r4 = true := by decide +kernel
theorem rb5 : pk.rowB r5 = true := by decide +kernel
theorem rb6 : pk.rowB r6 = true := by decide +kernel
theorem rb7 : pk.rowB r7 = true := by decide +kernel
theorem rb8 : pk.rowB r8 = true := by decide +kernel
theorem rb9 : pk.rowB r9 = true := by decide +kernel
theorem rb10 : pk.rowB r10 = true := by decide +kernel
theorem rb11 : pk.rowB r11 = true := by decide +kernel
theorem rb12 : pk.rowB r12 = true := by decide +kernel
theorem rb13 : pk.rowB r13 = true := by decide +kernel
theorem rb14 : pk.rowB r14 = true := by decide +kernel
theorem rb15 : pk.rowB r15 = true := by decide +kernel
theorem rb16 : pk.rowB r16 = true := by decide +kernel
theorem rb17 : pk.rowB r17 = true := by decide +kernel
theorem rb18 : pk.rowB r18 = true := by decide +kernel
theorem rb19 : pk.rowB r19 = true := by decide +kernel
theorem rb20 : pk.rowB r20 = true := by decide +kernel
theorem rb21 : pk.rowB r21 = true := by decide +kernel
theorem rb22 : pk.rowB r22 = true := by decide +kernel
theorem rb23 : pk.rowB r23 = true := by decide +kernel
theorem rb24 : pk.rowB r24 = true := by decide +kernel
theorem rb25 : pk.rowB r25 = true := by decide +kernel
theorem rb26 : pk.rowB r26 = true := by decide +kernel
theorem rb27 : pk.rowB r27 = true := by decide +kernel
theorem rb28 : pk.rowB r28 = true := by decide +kernel
theorem rb29 : pk.rowB r29 = true := by decide +kernel
theorem rb30 : pk.rowB r30 = true := by decide +kernel
theorem rb31 : pk.rowB r31 = true := by decide +kernel
theorem rb32 : pk.rowB r32 = true := by decide +kernel
theorem rb33 : pk.rowB r33 = true := by decide +kernel
theorem rb34 : pk.rowB r34 = true := by decide +kernel
theorem rb35 : pk.rowB r35 = true := by decide +kernel
theorem xb0 : pk.xsB x0 = true := by decide +kernel
theorem xb1 : pk.xsB x1 = true := by decide +kernel
theorem rbs : ∀ r ∈ pk.rows, pk.rowB r = true := List.forall_mem_cons.mpr ⟨rb0, List.forall_mem_cons.mpr ⟨rb1, List.forall_mem_cons.mpr ⟨rb2, List.forall_mem_cons.mpr ⟨rb3, List.forall_mem_cons.mpr ⟨rb4, List.forall_mem_cons.mpr ⟨rb5, List.forall_mem_cons.mpr ⟨rb6, List.forall_mem_cons.mpr ⟨rb7, List.forall_mem_cons.mpr ⟨rb8, List.forall_mem_cons.mpr ⟨rb9, List.forall_mem_cons.mpr ⟨rb10, List.forall_mem_cons.mpr ⟨rb11, List.forall_mem_cons.mpr ⟨rb12, List.forall_mem_cons.mpr ⟨rb13, List.forall_mem_cons.mpr ⟨rb14, List.forall_mem_cons.mpr ⟨rb15, List.forall_mem_cons.mpr ⟨rb16, List.forall_mem_cons.mpr ⟨rb17, List.forall_mem_cons.mpr ⟨rb18, List.forall_mem_cons.mpr ⟨rb19, List.forall_mem_cons.mpr ⟨rb20, List.forall_mem_cons.mpr ⟨rb21, List.forall_mem_cons.mpr ⟨rb22, List.forall_mem_cons.mpr ⟨rb23, List.forall_mem_cons.mpr ⟨rb24, List.forall_mem_cons.mpr ⟨rb25, List.forall_mem_cons.mpr ⟨rb26, List.forall_mem_cons.mpr ⟨rb27, List.forall_mem_cons.mpr ⟨rb28, List.forall_mem_cons.mpr ⟨rb29, List.forall_mem_cons.mpr ⟨rb30, List.forall_mem_cons.mpr ⟨rb31, List.forall_mem_cons.mpr ⟨rb32, List.forall_mem_cons.mpr ⟨rb33, List.forall_mem_cons.mpr ⟨rb34, List.forall_mem_cons.mpr ⟨rb35, fun _ h => absurd h List.not_mem_nil⟩⟩⟩⟩⟩⟩⟩⟩⟩⟩⟩⟩⟩⟩⟩⟩⟩⟩⟩⟩⟩⟩⟩⟩⟩⟩⟩⟩⟩⟩⟩⟩⟩⟩⟩⟩
theorem xbs : ∀ x ∈ pk.excs, pk.xsB x = true := List.forall_mem_cons.mpr ⟨xb0, List.forall_mem_cons.mpr ⟨xb1, fun _ h => absurd h List.not_mem_nil⟩⟩
theorem fo : fldsOk pk.flds = true := by decide +kernel
theorem lb : pk.linkB = true := by decide +kernel
end K1
end
section
set_option Elab.async false
set_option linter.all false
set_option maxRecDepth 100000
set_option maxHeartbeats 1000000
namespace K1
open Z L2
/-! ### the law's helpers -/
abbrev CC (n : Nat) : Cl := callN pk.gm pk.fT n
theorem call_at {n f : Nat} {r : FRow} {ds : List D} {h : Hs} (e : pk.rows[f]? = some r) (hl : ds.length = r.fn.np) : CC (n + 1) f ds h = runFn pk.gm (CC n) r.fn ds h := by
  show (match pk.fT f with
    | some F => if Nat.beq ds.length F.np then runFn pk.gm (callN pk.gm pk.fT n) F ds h else .bad
    | none => .bad) = _
  have e2 : pk.fT f = some r.fn := by unfold Pk.fT; rw [e]; rfl
  rw [e2]
  dsimp only
  rw [if_pos (by rw [nbeq]; exact hl)]
/-- script[k] or 0 -/
theorem cell_ok {n : Nat} {h : Hs} {s : Nat} {l : List Int} (k : Nat) (hs : h.get s = some (.frz (l.map D.int))) (hk : k < 1000) : ∃ i : Int, CC (n + 1) 9 [.ref s, .int k] h = .ok (.int i) h := by
  rw [call_at (r := r9) rfl rfl]
  have hkv : kvOf h (.ref s) = none := by simp [kvOf, hs]
  have hsq : seqOf h (.ref s) = some (l.map D.int) := by simp [seqOf, hs]
  by_cases hlt : k < l.length
  · refine ⟨l[k], ?_⟩
    simp [runFn, r9, b9, evSs, evS, evE, evAs, startD, sVar, tCmpB, sBlt, bltop, R.bind, R.thenS, RS.then, cmpv, sIdx, idxop, hkv, hsq, atI, ixN, hlt]
  · refine ⟨0, ?_⟩
    simp [runFn, r9, b9, evSs, evS, evE, evAs, startD, sVar, tCmpB, sBlt, bltop, R.bind, R.thenS, RS.then, cmpv, sIdx, idxop, hkv, hsq, atI, ixN, hlt]

/-- the heap while digits are made -/
def dgH (ns l : List Int) : Hs := ⟨[(1, .lst (l.map D.int)), (0, .frz (ns.map D.int))], 2⟩
theorem dgH_get {ns l : List Int} : (dgH ns l).get 1 = some (.lst (l.map D.int)) := rfl
theorem dgH_set {ns l l' : List Int} : (dgH ns l).set 1 (.lst (l'.map D.int)) = dgH ns l' := rfl
abbrev dgE (f m k c : Int) (x6 x7 : Option D) : Ev := [some (.ref 0), some (.int f), some (.int m), some (.ref 1), some (.int k), some (.int c), x6, x7]
theorem dg_len {l : List Int} {a : Int} (hl : l.length < 100000) : (l.map D.int).length < big := by rw [List.length_map]; show l.length < 1000000; omega
def SA : Ss := .cons (.cond (.cmp .gt (.var 5) (.con (.int 0))) (.cons (.expr (.bm .append (.var 3) (.cons (.bin .mod (.blt .int (.cons (.var 5) .nil)) (.con (.int 1000))) .nil))) (.cons (.set 5 (.bin .fdiv (.var 5) (.con (.int 1000)))) .nil)) .nil) .nil
def SB : Ss := .cons (.set 7 (.bin .mod (.blt .int (.cons (.bin .add (.bin .add (.bin .mul (.var 7) (.con (.int 16807))) (.bin .mul (.con (.int 7)) (.var 6))) (.con (.int 1))) .nil)) (.con (.int 2147483647)))) (.cons (.expr (.bm .append (.var 3) (.cons (.bin .mod (.blt .int (.cons (.bin .fdiv (.var 7) (.con (.int 997))) .nil)) (.con (.int 1000))) .nil))) .nil)
theorem SA_ok (C : Cl) {ns l : List Int} {f m k c : Int} {x6 x7 : Option D} (hl : l.length < 100000) : ∃ c' l', evSs pk.gm C SA (dgE f m k c x6 x7) (dgH ns l) = .nx (dgE f m k c' x6 x7) (dgH ns l') ∧ l'.length ≤ l.length + 1 := by
  have hz := dg_len (a := 0) hl
  by_cases hc : 0 < c
  · refine ⟨c / 1000, l ++ [c % 1000], ?_, by simp⟩
    simp [SA, evSs, evS, evE, evAs, sVar, tCmpB, sBlt, sBin, sBm, int_int, mod_int, fdiv_int, gt_int, R.bind, R.thenS, RS.then, hc, recvL_of dgH_get, append_ok dgH_get hz]
    simp [dgH, Hs.set, Hs.pt]
  · refine ⟨c, l, ?_, by simp⟩
    simp [SA, evSs, evS, evE, evAs, sVar, tCmpB, R.bind, R.thenS, RS.then, gt_int, hc]
theorem SB_ok (C : Cl) {ns l : List Int} {f m k c s : Int} {t : Nat} (ht : t < 100) (hl : l.length < 100000) : ∃ s' l', evSs pk.gm C SB (dgE f m k c (some (.int t)) (some (.int s))) (dgH ns l) = .nx (dgE f m k c (some (.int t)) (some (.int s'))) (dgH ns l') ∧ l'.length ≤ l.length + 1 := by
  have hz := dg_len (a := 0) hl
  refine ⟨(s * 16807 + 7 * t + 1) % 2147483647, l ++ [(s * 16807 + 7 * t + 1) % 2147483647 / 997 % 1000], ?_, by simp⟩
  simp [SB, evSs, evS, evE, evAs, sVar, tCmpB, sBlt, sBin, sBm, int_int, mod_int, fdiv_int, add_int, mul_r, mul_l, R.bind, R.thenS, RS.then, recvL_of dgH_get, append_ok dgH_get hz]
  simp [dgH, Hs.set, Hs.pt]
/-- the inner loops -/
theorem loopA (C : Cl) {ns l : List Int} {f m k c : Int} {x6 x7 : Option D} (hl : l.length ≤ 50000) : ∃ c' y6 l', eachN (.rng 0 60) (.nm 6) (evSs pk.gm C SA) loopFuel 0 (dgE f m k c x6 x7) (dgH ns l) = .nx (dgE f m k c' y6 x7) (dgH ns l') ∧ l'.length ≤ l.length + 60 := by
  obtain ⟨σ', h', e, c', y6, l', rfl, rfl, q⟩ := each_inv (src := .rng 0 60) (tg := .nm 6) (b := evSs pk.gm C SA) 60 (fun i σ h => ∃ c' y6 l', σ = dgE f m k c' y6 x7 ∧ h = dgH ns l' ∧ l'.length ≤ l.length + i) (fun i σ h hi ⟨c', y6, l', e1, e2, e3⟩ => by
    subst e1 e2
    obtain ⟨c2, l2, q1, q2⟩ := SA_ok C (ns := ns) (l := l') (f := f) (m := m) (k := k) (c := c') (x6 := some (.int (0 + i))) (x7 := x7) (by omega)
    exact ⟨.int (0 + i), _, _, _, by simp only [Src.item, hi, if_true], rfl, .inl q1, c2, _, l2, rfl, rfl, by omega⟩) (fun σ h _ => by simp [Src.item]) loopFuel 0 (dgE f m k c x6 x7) (dgH ns l) (by omega) (by rw [fuel_big]; omega) ⟨c, x6, l, rfl, rfl, by omega⟩
  exact ⟨c', y6, l', e, q⟩
theorem loopB (C : Cl) {ns l : List Int} {f m k c s : Int} {x6 : Option D} (hl : l.length ≤ 50000) : ∃ s' y6 l', eachN (.rng 0 12) (.nm 6) (evSs pk.gm C SB) loopFuel 0 (dgE f m k c x6 (some (.int s))) (dgH ns l) = .nx (dgE f m k c y6 (some (.int s'))) (dgH ns l') ∧ l'.length ≤ l.length + 60 := by
  obtain ⟨σ', h', e, s', y6, l', rfl, rfl, q⟩ := each_inv (src := .rng 0 12) (tg := .nm 6) (b := evSs pk.gm C SB) 12 (fun i σ h => ∃ s' y6 l', σ = dgE f m k c y6 (some (.int s')) ∧ h = dgH ns l' ∧ l'.length ≤ l.length + i) (fun i σ h hi ⟨s', y6, l', e1, e2, e3⟩ => by
    subst e1 e2
    obtain ⟨s2, l2, q1, q2⟩ := SB_ok C (ns := ns) (l := l') (f := f) (m := m) (k := k) (c := c) (s := s') (t := i) (by omega) (by omega)
    exact ⟨.int (0 + i), _, _, _, by simp only [Src.item, hi, if_true], rfl, .inl (by rw [Int.zero_add]; exact q1), s2, _, l2, rfl, rfl, by omega⟩) (fun σ h _ => by simp [Src.item]) loopFuel 0 (dgE f m k c x6 (some (.int s))) (dgH ns l) (by omega) (by rw [fuel_big]; omega) ⟨s, x6, l, rfl, rfl, by omega⟩
  exact ⟨s', y6, l', e, by omega⟩
def SR : Ss := .cons (.cond (.cmp .ge (.var 5) (.bin .pow (.con (.int 10)) (.con (.int 18)))) (.cons (.each (.nm 6) (.rng1 (.con (.int 60))) SA) .nil) (.cons (.set 7 (.bin .mod (.blt .int (.cons (.bin .add (.bin .add (.bin .mul (.var 5) (.con (.int 48271))) (.bin .mul (.var 4) (.con (.int 69621)))) (.con (.int 11))) .nil)) (.con (.int 2147483647)))) (.cons (.each (.nm 6) (.rng1 (.con (.int 12))) SB) .nil))) .nil
def SD : Ss := .cons (.set 5 (.call 9 (.cons (.var 0) (.cons (.var 4) .nil)))) (.cons (.cond (.cmp .lt (.var 5) (.con (.int 0))) (.cons (.set 5 (.bin .sub (.con (.int 1)) (.bin .mul (.con (.int 2)) (.var 5)))) .nil) .nil) SR)
theorem b10_is : b10 = .cons (.set 3 (.lst .nil)) (.cons (.each (.nm 4) (.rng2 (.var 1) (.var 2)) SD) (.cons (.ret (.var 3)) .nil)) := rfl
theorem SD_ok {n : Nat} {ns l : List Int} {f m : Int} {k : Nat} {x5 x6 x7 : Option D} (hk : k < 1000) (hl : l.length ≤ 50000) :
    ∃ y5 y6 y7 l', evSs pk.gm (CC (n + 1)) SD [some (.ref 0), some (.int f), some (.int m), some (.ref 1), some (.int k), x5, x6, x7] (dgH ns l) = .nx [some (.ref 0), some (.int f), some (.int m), some (.ref 1), some (.int k), y5, y6, y7] (dgH ns l') ∧ l'.length ≤ l.length + 60 := by
  obtain ⟨c0, hc0⟩ := cell_ok (n := n) (h := dgH ns l) (s := 0) (l := ns) k rfl hk
  have hp : ∀ h, binop .pow (.int 10) (.int 18) h = .ok (.int (10 ^ 18)) h := fun h => pow_int 10 18 h (by omega) (by decide)
  have head : ∀ c1 : Int, ∃ y5 y6 y7 l', evSs pk.gm (CC (n + 1)) SR (dgE f m k c1 x6 x7) (dgH ns l) = .nx [some (.ref 0), some (.int f), some (.int m), some (.ref 1), some (.int k), y5, y6, y7] (dgH ns l') ∧ l'.length ≤ l.length + 60 := fun c1 => by
    by_cases hg : (1000000000000000000 : Int) ≤ c1
    · obtain ⟨c', y6, l', e, q⟩ := loopA (CC (n + 1)) (ns := ns) (l := l) (f := f) (m := m) (k := k) (c := c1) (x6 := x6) (x7 := x7) hl
      refine ⟨some (.int c'), y6, x7, l', ?_, q⟩
      simp [SR, evSs, evS, evE, evI, sVar, tCmpB, sBin, hp, ge_int, R.bind, R.thenS, RS.then, hg, smallI, e]
    · obtain ⟨s', y6, l', e, q⟩ := loopB (CC (n + 1)) (ns := ns) (l := l) (f := f) (m := m) (k := k) (c := c1) (s := (c1 * 48271 + k * 69621 + 11) % 2147483647) (x6 := x6) hl
      refine ⟨some (.int c1), y6, some (.int s'), l', ?_, q⟩
      simp [SR, evSs, evS, evE, evAs, evI, sVar, tCmpB, sBin, sBlt, hp, ge_int, mul_r, add_int, int_int, mod_int, R.bind, R.thenS, RS.then, hg, smallI, e]
  have ck : ∀ a b, ckargs (pk.gm.np 9) [a, b] = true := fun _ _ => rfl
  by_cases hn : c0 < 0
  · obtain ⟨y5, y6, y7, l', e, q⟩ := head (1 - 2 * c0)
    refine ⟨y5, y6, y7, l', ?_, q⟩
    simp [SD, evSs, evS, evE, evAs, sVar, sCall, ck, hc0, tCmpB, sBin, lt_int, mul_l, sub_int, R.bind, R.thenS, RS.then, hn, e]
  · obtain ⟨y5, y6, y7, l', e, q⟩ := head c0
    refine ⟨y5, y6, y7, l', ?_, q⟩
    simp [SD, evSs, evS, evE, evAs, sVar, sCall, ck, hc0, tCmpB, sBin, lt_int, mul_l, sub_int, R.bind, R.thenS, RS.then, hn, e]
theorem digits_ok {n : Nat} {ns : List Int} (m : Nat) (hm : m ≤ 800) : ∃ l : List Int, CC (n + 2) 10 [.ref 0, .int 0, .int m] (hs0 ns) = .ok (.ref 1) (dgH ns l) := by
  obtain ⟨σ', h', e, y4, y5, y6, y7, l', rfl, rfl, q⟩ := each_inv (src := .rng 0 m) (tg := .nm 4) (b := evSs pk.gm (CC (n + 1)) SD) m (fun i σ h => ∃ y4 y5 y6 y7 l', σ = [some (.ref 0), some (.int 0), some (.int m), some (.ref 1), y4, y5, y6, y7] ∧ h = dgH ns l' ∧ l'.length ≤ 60 * i)
    (fun i σ h hi ⟨y4, y5, y6, y7, l', e1, e2, e3⟩ => by
      subst e1 e2
      obtain ⟨z5, z6, z7, l2, q1, q2⟩ := SD_ok (n := n) (ns := ns) (l := l') (f := 0) (m := m) (k := i) (x5 := y5) (x6 := y6) (x7 := y7) (by omega) (by omega)
      exact ⟨.int (0 + i), _, _, _, by simp only [Src.item, hi, if_true], rfl, .inl (by rw [Int.zero_add]; exact q1), some (.int i), z5, z6, z7, l2, rfl, rfl, by omega⟩) (fun σ h _ => by simp [Src.item]) loopFuel 0
    [some (.ref 0), some (.int 0), some (.int m), some (.ref 1), none, none, none, none] (dgH ns []) (by omega) (by rw [fuel_big]; omega) ⟨none, none, none, none, [], rfl, rfl, by simp⟩
  refine ⟨l', ?_⟩
  rw [call_at (r := r10) rfl rfl]
  have hh : ((hs0 ns).new (.lst [])) = dgH ns [] := rfl
  have hnn : (hs0 ns).n = 1 := rfl
  have sm : smallI m = true := by simp [smallI]; omega
  have sm0 : smallI 0 = true := rfl
  simp [runFn, r10, b10_is, evSs, evS, evE, evAs, evI, sLst, startD, sVar, sm, sm0, R.bind, R.thenS, RS.then, hh, hnn, e]
/-! ### draws -/
/-- the box at b: the digits at a, the number of draws -/
structure Box (h : Hs) (b a : Nat) (l : List Int) (k : Nat) : Prop where
  box : h.get b = some (.lst [.ref a, .int k])
  dig : h.get a = some (.lst (l.map D.int))
  ne : a ≠ b
def drawn (l : List Int) (k : Nat) (m : Int) : Int := if k < l.length then (l[k]?).getD 0 % m else (k * 7 + 3) % m
theorem draw_ok {n : Nat} {h : Hs} {b a : Nat} {l : List Int} {k : Nat} {m : Int} (B : Box h b a l k) (hm : 0 < m) : CC (n + 1) 11 [.ref b, .int m] h = .ok (.int (drawn l k m)) (h.set b (.lst [.ref a, .int (k + 1)])) := by
  rw [call_at (r := r11) rfl rfl]
  have i1 : idxop (.ref b) (.int 1) h = .ok (.int k) h := idx_lst (k := 1) B.box rfl
  have g1 : (h.set b (.lst [.ref a, .int (k + 1)])).get b = some (.lst [.ref a, .int (k + 1)]) := Hs.get_set_same _ _ _
  have g2 : (h.set b (.lst [.ref a, .int (k + 1)])).get a = some (.lst (l.map D.int)) := (Hs.get_set_ne _ _ B.ne).trans B.dig
  have i0 : idxop (.ref b) (.int 0) (h.set b (.lst [.ref a, .int (k + 1)])) = .ok (.ref a) (h.set b (.lst [.ref a, .int (k + 1)])) := idx_lst (k := 0) g1 rfl
  have ln := len_lst g2
  have st : setIop (.ref b) (.int 1) (.int (k + 1)) h = .ok () (h.set b (.lst [.ref a, .int (k + 1)])) := by
    simp [setIop, B.box, ixN]
  by_cases hk : k < l.length
  · have i2 : idxop (.ref a) (.int k) (h.set b (.lst [.ref a, .int (k + 1)])) = .ok (.int l[k]) (h.set b (.lst [.ref a, .int (k + 1)])) := idx_lst (k := k) g2 (by rw [List.getElem?_map, List.getElem?_eq_getElem hk]; rfl)
    have hlt : (k : Int) < (l.map D.int).length := by rw [List.length_map]; omega
    simp [runFn, r11, b11, evSs, evS, evE, evAs, startD, sVar, sIdx, i1, sBin, add_int, st, tCmpB, sBlt, i0, ln, lt_int, hlt, i2, int_int, mod_int, hm, R.bind, R.thenS, RS.then, drawn, hk]
  · have hlt : ¬ (k : Int) < (l.map D.int).length := by rw [List.length_map]; omega
    simp [runFn, r11, b11, evSs, evS, evE, evAs, startD, sVar, sIdx, i1, sBin, add_int, mul_r, st, tCmpB, sBlt, i0, ln, lt_int, hlt, int_int, mod_int, hm, R.bind, R.thenS, RS.then, drawn, hk]
theorem drawn_lt {l : List Int} {k : Nat} {m : Int} (hm : 0 < m) : 0 ≤ drawn l k m ∧ drawn l k m < m := by
  unfold drawn
  split
  · exact ⟨Int.emod_nonneg _ (by omega), Int.emod_lt_of_pos _ hm⟩
  · exact ⟨Int.emod_nonneg _ (by omega), Int.emod_lt_of_pos _ hm⟩
theorem Box.next {h : Hs} {b a : Nat} {l : List Int} {k : Nat} (B : Box h b a l k) : Box (h.set b (.lst [.ref a, .int (k + 1)])) b a l (k + 1) :=
  ⟨Hs.get_set_same _ _ _, (Hs.get_set_ne _ _ B.ne).trans B.dig, B.ne⟩
end K1
end
section
set_option Elab.async false
set_option linter.all false
set_option maxRecDepth 100000
set_option maxHeartbeats 1000000
namespace K1
open Z L2
/-! ### tokens -/
def isLet (c : Nat) : Bool := decide (97 ≤ c) && decide (c ≤ 122)
def runL : List Nat → Nat
  | [] => 0
  | c :: r => if isLet c then runL r + 1 else 0
def tk (s : List Nat) : Nat := if s.take 2 = [45, 62] then 2 else max (runL s) 1
def toks : Nat → List Nat → List (List Nat)
  | 0, _ => []
  | _ + 1, [] => []
  | n + 1, c :: r => if c = 32 ∨ c = 10 then toks n ((c :: r).drop (tk (c :: r))) else (c :: r).take (tk (c :: r)) :: toks n ((c :: r).drop (tk (c :: r)))
theorem letter_ok {n c : Nat} {h : Hs} : CC (n + 1) 7 [.str [c]] h = .ok (.bl (isLet c)) h := by
  rw [call_at (r := r7) rfl rfl]
  have e1 : decide (([c] : List Nat) < [97]) = decide (c < 97) := by
    apply decide_eq_decide.mpr
    simp [List.cons_lt_cons_iff]
  have e2 : decide (([122] : List Nat) < [c]) = decide (122 < c) := by
    apply decide_eq_decide.mpr
    simp [List.cons_lt_cons_iff]
  by_cases h1 : c < 97
  · have : isLet c = false := by simp [isLet]; omega
    simp [runFn, r7, b7, evSs, evS, evE, startD, sVar, sChn, cmpop, le_str, R.bind, R.thenS, RS.then, e1, h1, this]
  · by_cases h2 : 122 < c
    · have : isLet c = false := by simp [isLet]; omega
      simp [runFn, r7, b7, evSs, evS, evE, startD, sVar, sChn, cmpop, le_str, R.bind, R.thenS, RS.then, e1, e2, h1, h2, this]
    · have : isLet c = true := by simp [isLet]; omega
      simp [runFn, r7, b7, evSs, evS, evE, startD, sVar, sChn, cmpop, le_str, R.bind, R.thenS, RS.then, e1, e2, h1, h2, this]
theorem runL_cons (c : Nat) (r : List Nat) : runL (c :: r) = if isLet c then runL r + 1 else 0 := rfl
theorem runL_le : ∀ s, runL s ≤ s.length
  | [] => Nat.le_refl _
  | c :: r => by
    unfold runL
    split
    · exact Nat.succ_le_succ (runL_le r)
    · exact Nat.zero_le _
theorem runL_drop : ∀ (s : List Nat) (j : Nat), j ≤ runL s → runL (s.drop j) = runL s - j
  | s, 0, _ => rfl
  | [], j + 1, h => by simp [runL] at h
  | c :: r, j + 1, h => by
    rw [runL_cons] at h ⊢
    by_cases hc : isLet c = true
    · rw [if_pos hc] at h ⊢
      rw [List.drop_succ_cons, runL_drop r j (by omega)]
      omega
    · rw [if_neg hc] at h; omega
def CE : E := .and (.cmp .lt (.var 2) (.blt .len (.cons (.var 0) .nil))) (.call 7 (.cons (.idx (.var 0) (.var 2)) .nil))
def BE : Ss := .cons (.aug 2 .add (.con (.int 1))) .nil
theorem b6_is : b6 = (.cons (.cond (.cmp .eq (.slc (.var 0) (.yes (.var 1)) (.yes (.bin .add (.var 1) (.con (.int 2))))) (.con (.str [45, 62]))) (.cons (.ret (.bin .add (.var 1) (.con (.int 2)))) .nil) .nil) (.cons (.set 2 (.var 1)) (.cons (.whl CE BE) (.cons (.ret (.blt .max (.cons (.var 2) (.cons (.bin .add (.var 1) (.con (.int 1))) .nil)))) .nil)))) := rfl
theorem while_run {n : Nat} {h : Hs} {t : List Nat} {a : Nat} (hl : t.length ≤ 1500) (ha : a < t.length) : whileN (evE pk.gm (CC (n + 1)) CE).2 (evSs pk.gm (CC (n + 1)) BE) loopFuel [some (.str t), some (.int a), some (.int a)] h = .nx [some (.str t), some (.int a), some (.int (a + runL (t.drop a) : Nat))] h := by
  have hb : t.length ≤ big := Nat.le_trans hl (by decide)
  have ck : ∀ a, ckargs (pk.gm.np 7) [a] = true := fun _ => rfl
  have hr := runL_le (t.drop a)
  rw [List.length_drop] at hr
  obtain ⟨σ', h', w, rfl, rfl⟩ := while_inv (c := (evE pk.gm (CC (n + 1)) CE).2) (b := evSs pk.gm (CC (n + 1)) BE) (fun k σ h' => ∃ p : Nat, a ≤ p ∧ p + k = a + runL (t.drop a) ∧ σ = [some (.str t), some (.int a), some (.int p)] ∧ h' = h)
    (fun σ h' => σ = [some (.str t), some (.int a), some (.int (a + runL (t.drop a) : Nat))] ∧ h' = h) (fun k σ h' ⟨p, e0, e1, e2, e3⟩ => by
      subst e2 e3
      have rd := runL_drop (t.drop a) (p - a) (by omega)
      rw [List.drop_drop, show a + (p - a) = p by omega] at rd
      by_cases hp : p < t.length
      · obtain ⟨c, hc⟩ : ∃ c, t[p]? = some c := ⟨_, List.getElem?_eq_getElem hp⟩
        have dc : t.drop p = c :: t.drop (p + 1) := by
          rw [List.drop_eq_getElem_cons hp]
          rw [List.getElem?_eq_getElem hp] at hc
          cases hc
          rfl
        rw [dc, runL_cons] at rd
        have ix := idx_str h' hb hc
        have lt : (p : Int) < (t.length : Int) := by omega
        by_cases hi : isLet c = true
        · right
          rw [if_pos hi] at rd
          refine ⟨h', [some (.str t), some (.int a), some (.int (p + 1 : Nat))], h', ?_, .inl ?_, k - 1, by omega, p + 1, by omega, by omega, rfl, rfl⟩
          · simp [CE, evE, evAs, tAndB, tCmpB, valT, sVar, sBlt, sCall, sIdx, ck, len_str, hb, lt_int, letter_ok, R.bind, tru, lt, ix, hi]
          · simp [BE, evSs, evS, evE, R.thenS, RS.then, add_int]
        · left
          rw [if_neg hi] at rd
          refine ⟨h', ?_, ?_, rfl⟩
          · simp [CE, evE, evAs, tAndB, tCmpB, valT, sVar, sBlt, sCall, sIdx, ck, len_str, hb, lt_int, letter_ok, R.bind, tru, lt, ix, hi]
          · rw [show p = a + runL (t.drop a) by omega]
      · left
        have lt : ¬ (p : Int) < (t.length : Int) := by omega
        refine ⟨h', ?_, ?_, rfl⟩
        · simp [CE, evE, evAs, tAndB, tCmpB, valT, sVar, sBlt, sCall, sIdx, ck, len_str, hb, lt_int, R.bind, lt]
        · rw [show p = a + runL (t.drop a) by omega]) (runL (t.drop a)) loopFuel [some (.str t), some (.int a), some (.int a)] h (by rw [fuel_big]; omega) ⟨a, by omega, by omega, rfl, rfl⟩
  exact w
theorem end_ok {n : Nat} {h : Hs} {t : List Nat} {a : Nat} (hl : t.length ≤ 1500) (ha : a < t.length) : CC (n + 2) 6 [.str t, .int a] h = .ok (.int (a + tk (t.drop a) : Nat)) h := by
  have hb : t.length ≤ big := Nat.le_trans hl (by decide)
  rw [call_at (r := r6) rfl rfl]
  have s1 : slcop (.str t) (some (a : Int)) (some ((a : Int) + 2)) h = .ok (.str ((t.drop a).take 2)) h := by
    have := slc_str (i := a) (j := a + 2) h hb (by omega)
    rw [Nat.add_sub_cancel_left] at this
    exact this
  by_cases h2 : (t.drop a).take 2 = [45, 62]
  · have e : tk (t.drop a) = 2 := if_pos h2
    simp [runFn, r6, b6_is, evSs, evS, evE, evO, optI, startD, sVar, sSlc, tCmpB, sBin, add_int, s1, eqv_str, h2, R.bind, R.thenS, RS.then, e]
  · have e : tk (t.drop a) = max (runL (t.drop a)) 1 := if_neg h2
    have w := while_run (n := n) (h := h) hl ha
    simp [runFn, r6, b6_is, evSs, evS, evE, evAs, evO, optI, startD, sVar, sSlc, tCmpB, sBin, sBlt, add_int, s1, eqv_str, h2, R.bind, R.thenS, RS.then, e, w, max_int]
    split <;> omega
theorem tk_pos (s : List Nat) : 1 ≤ tk s := by
  unfold tk
  split <;> omega
theorem tk_le {s : List Nat} (h : s ≠ []) : tk s ≤ s.length := by
  unfold tk
  split
  · rename_i e
    have := congrArg List.length e
    rw [List.length_take] at this
    simp at this
    omega
  · have := runL_le s
    have : 0 < s.length := List.length_pos_iff.mpr h
    omega
def CT : E := .cmp .lt (.var 2) (.blt .len (.cons (.var 0) .nil))
def BT : Ss := .cons (.set 3 (.call 6 (.cons (.var 0) (.cons (.var 2) .nil)))) (.cons (.cond (.and (.cmp .ne (.idx (.var 0) (.var 2)) (.con (.str [32]))) (.cmp .ne (.idx (.var 0) (.var 2)) (.con (.str [10])))) (.cons (.expr (.bm .append (.var 1) (.cons (.slc (.var 0) (.yes (.var 2)) (.yes (.var 3))) .nil))) .nil) .nil) (.cons (.set 2 (.var 3)) .nil))
theorem b5_is : b5 = (.cons (.set 1 (.lst .nil)) (.cons (.set 2 (.con (.int 0))) (.cons (.whl CT BT) (.cons (.ret (.var 1)) .nil)))) := rfl
theorem toks_fuel : ∀ (m m' : Nat) (s : List Nat), s.length ≤ m → s.length ≤ m' → toks m s = toks m' s
  | 0, 0, s, _, _ => rfl
  | 0, m' + 1, [], _, _ => rfl
  | 0, m' + 1, _ :: _, h, _ => by simp at h
  | m + 1, 0, [], _, _ => rfl
  | m + 1, 0, _ :: _, _, h => by simp at h
  | m + 1, m' + 1, [], _, _ => rfl
  | m + 1, m' + 1, c :: r, h1, h2 => by
    have t1 := tk_pos (c :: r)
    simp only [List.length_cons] at h1 h2
    have hd : ((c :: r).drop (tk (c :: r))).length ≤ r.length := by rw [List.length_drop, List.length_cons]; omega
    have ih := toks_fuel m m' ((c :: r).drop (tk (c :: r))) (by omega) (by omega)
    show (if c = 32 ∨ c = 10 then _ else _) = (if c = 32 ∨ c = 10 then _ else _)
    rw [ih]
/-- the tokens as data -/
def sD (l : List (List Nat)) : List D := l.map D.str
theorem split_ok {n : Nat} {h : Hs} {t : List Nat} (hl : t.length ≤ 1500) : CC (n + 3) 5 [.str t] h = .ok (.ref h.n) (h.new (.lst (sD (toks t.length t)))) := by
  have hb : t.length ≤ big := Nat.le_trans hl (by decide)
  have ck : ∀ a b, ckargs (pk.gm.np 6) [a, b] = true := fun _ _ => rfl
  have g0 : ∀ ds, (h.new (.lst ds)).get h.n = some (.lst ds) := fun ds => Hs.get_new_same _ _
  have st : ∀ ds es, (h.new (.lst ds)).set h.n (.lst es) = h.new (.lst es) := fun ds es => by
    simp [Hs.new, Hs.set, Hs.pt]
  obtain ⟨σ', h', w, x3, rfl, rfl⟩ := while_inv (c := (evE pk.gm (CC (n + 2)) CT).2) (b := evSs pk.gm (CC (n + 2)) BT)
    (fun k σ h' => ∃ (p : Nat) (x3 : Option D) (ds : List (List Nat)), p ≤ t.length ∧ (∀ m, (t.drop p).length ≤ m → ds ++ toks m (t.drop p) = toks t.length t) ∧ t.length - p ≤ k ∧ ds.length ≤ p ∧ σ = [some (.str t), some (.ref h.n), some (.int p), x3] ∧ h' = h.new (.lst (sD ds)))
    (fun σ h' => ∃ x3, σ = [some (.str t), some (.ref h.n), some (.int t.length), x3] ∧ h' = h.new (.lst (sD (toks t.length t)))) (fun k σ h' ⟨p, x3, ds, e0, e1, e2, e4, e5, e6⟩ => by
      subst e5 e6
      by_cases hp : p < t.length
      · right
        obtain ⟨c, hc⟩ : ∃ c, t[p]? = some c := ⟨_, List.getElem?_eq_getElem hp⟩
        have dc : t.drop p = c :: t.drop (p + 1) := by
          rw [List.drop_eq_getElem_cons hp]
          rw [List.getElem?_eq_getElem hp] at hc
          cases hc
          rfl
        have lt : (p : Int) < (t.length : Int) := by omega
        have ne : t.drop p ≠ [] := by rw [dc]; simp
        have t1 := tk_pos (t.drop p)
        have t2 := tk_le ne
        rw [List.length_drop] at t2
        have e := end_ok (n := n) (h := h.new (.lst (sD ds))) hl hp
        have ix := idx_str (h.new (.lst (sD ds))) hb hc
        have sl := slc_str (i := p) (j := p + tk (t.drop p)) (h.new (.lst (sD ds))) hb (by omega)
        rw [Nat.add_sub_cancel_left] at sl
        have dd : t.drop (p + tk (t.drop p)) = (t.drop p).drop (tk (t.drop p)) := by rw [List.drop_drop]
        have ln : (sD ds).length < big := by unfold sD; rw [List.length_map]; show ds.length < 1000000; omega
        have ap := append_ok (d := .str ((t.drop p).take (tk (t.drop p)))) (g0 (sD ds)) ln
        have rc := recvL_of (g0 (sD ds))
        have fin : ∀ m, ((t.drop p).drop (tk (t.drop p))).length ≤ m → toks m ((t.drop p).drop (tk (t.drop p))) = toks (t.drop (p + 1)).length ((t.drop p).drop (tk (t.drop p))) := fun m hm => toks_fuel _ _ _ hm (by rw [List.length_drop, dc, List.length_cons, ← dc]; omega)
        have un : toks ((t.drop (p + 1)).length + 1) (t.drop p) = if c = 32 ∨ c = 10 then toks (t.drop (p + 1)).length ((t.drop p).drop (tk (t.drop p))) else (t.drop p).take (tk (t.drop p)) :: toks (t.drop (p + 1)).length ((t.drop p).drop (tk (t.drop p))) := by
          rw [dc]
          rfl
        have tot := e1 ((t.drop (p + 1)).length + 1) (by rw [dc, List.length_cons]; omega)
        rw [un] at tot
        generalize hq : p + tk (t.drop p) = q at *
        refine ⟨h.new (.lst (sD ds)), ?_⟩
        have tr : (evE pk.gm (CC (n + 2)) CT).2 [some (.str t), some (.ref h.n), some (.int p), x3] (h.new (.lst (sD ds))) = .ok true (h.new (.lst (sD ds))) := by
          simp [CT, evE, evAs, tCmpB, sVar, sBlt, len_str, hb, lt_int, R.bind, lt]
        by_cases hw : c = 32 ∨ c = 10
        · refine ⟨[some (.str t), some (.ref h.n), some (.int q), some (.int q)], h.new (.lst (sD ds)), tr, .inl ?_, k - 1, by omega, q, _, ds, by omega, fun m hm => ?_, by omega, by omega, rfl, rfl⟩
          · rcases hw with rfl | rfl <;> simp [BT, evSs, evS, evE, evAs, evO, optI, sVar, sCall, ck, e, sIdx, ix, tAndB, tCmpB, nev_str, R.bind, R.thenS, RS.then]
          · rw [if_pos hw] at tot
            rw [dd] at hm ⊢
            rw [fin m hm, tot]
        · refine ⟨[some (.str t), some (.ref h.n), some (.int q), some (.int q)], h.new (.lst (sD (ds ++ [(t.drop p).take (tk (t.drop p))]))), tr, .inl ?_, k - 1, by omega, q, _, ds ++ [(t.drop p).take (tk (t.drop p))], by omega, fun m hm => ?_, by omega, by rw [List.length_append]; simp; omega, rfl, rfl⟩
          · obtain ⟨n1, n2⟩ := not_or.mp hw
            simp [BT, evSs, evS, evE, evAs, evO, optI, sVar, sCall, ck, e, sIdx, ix, tAndB, tCmpB, nev_str, n1, n2, sBm, rc, sSlc, sl, ap, R.bind, R.thenS, RS.then]
            rw [st]
            simp [sD]
          · rw [if_neg hw] at tot
            rw [dd] at hm ⊢
            rw [fin m hm, ← tot, List.append_assoc]
            rfl
      · left
        obtain rfl : p = t.length := by omega
        have lt : ¬ ((t.length : Nat) : Int) < (t.length : Int) := by omega
        refine ⟨h.new (.lst (sD ds)), ?_, x3, rfl, ?_⟩
        · simp [CT, evE, evAs, tCmpB, sVar, sBlt, len_str, hb, lt_int, R.bind]
        · have := e1 0 (by simp)
          rw [← this, show toks 0 (t.drop t.length) = [] from rfl, List.append_nil]) (t.length + 1) loopFuel [some (.str t), some (.ref h.n), some (.int (0 : Nat)), none] (h.new (.lst (sD []))) (by rw [fuel_big]; omega)
      ⟨0, none, [], by omega, fun m hm => toks_fuel m t.length t hm (Nat.le_refl _), by omega, by simp, rfl, rfl⟩
  rw [call_at (r := r5) rfl rfl]
  simp [runFn, r5, b5_is, evSs, evS, evE, evAs, startD, sLst, sVar, R.bind, R.thenS, RS.then]
  have w' := w
  simp [sD] at w'
  simp [w', sD]
end K1
end
section
set_option Elab.async false
set_option linter.all false
set_option maxRecDepth 100000
set_option maxHeartbeats 1000000
namespace K1
open Z L2
/-! ### a text is read -/
def TL : Ss := (.cons (.set 2 (.lst .nil)) (.cons (.whl (.cmp .ne (.meth (.var 1) 0 .nil) (.con (.str []))) (.cons (.expr (.bm .append (.var 2) (.cons (.meth (.var 1) 7 .nil) .nil))) .nil)) (.cons (.cond (.cmp .gt (.fld (.var 1) 13) (.glo 5)) (.cons (.raise_ 1 (.cons (.con (.int 0)) (.cons (.con (.str [98, 108, 111, 99, 107, 115, 32, 116, 111, 111, 32, 100, 101, 101, 112])) .nil))) .nil) .nil) (.cons (.ret (.blt .tuple (.cons (.var 2) .nil))) .nil))))
def longT : List Nat := [116, 101, 120, 116, 32, 116, 111, 111, 32, 108, 111, 110, 103]
theorem b3_is : b3 = (.cons (.cond (.cmp .gt (.blt .len (.cons (.var 0) .nil)) (.glo 4)) (.cons (.raise_ 1 (.cons (.con (.int 0)) (.cons (.con (.str longT)) .nil))) .nil) .nil) (.cons (.set 1 (.make 5 (.cons (.call 5 (.cons (.var 0) .nil)) .nil))) TL)) := rfl
def tail3 : Ss := .cons (.set 1 (.make 5 (.cons (.con (.ref 0)) .nil))) TL
def fin3 : RS → R D
  | .nx _ h' => .ok .non h'
  | .rt d h' => .ok d h'
  | .exc c fs _ h' => .exc c fs h'
  | _ => .bad
theorem run_fin (C : Cl) (F : Fn) (ds : List D) (h : Hs) : runFn pk.gm C F ds h = fin3 (evSs pk.gm C F.body (startD F.ns ds) h) := by
  unfold runFn fin3
  cases evSs pk.gm C F.body (startD F.ns ds) h <;> rfl
noncomputable def parseK (t : List Nat) : R D := fin3 (kSs pk.gm (callK pk.gm pk.fT 57) tail3 [some (.str t), none, none] ⟨[(0, .lst (sD (toks t.length t)))], 1⟩)
theorem parse_eq {t : List Nat} (hl : t.length ≤ 1500) : CC 58 3 [.str t] Hs.empty = parseK t := by
  have hb : t.length ≤ big := Nat.le_trans hl (by decide)
  have sp := split_ok (n := 54) (h := Hs.empty) hl
  have ck : ∀ a, ckargs (pk.gm.np 5) [a] = true := fun _ => rfl
  have lt : ¬ ((1500 : Int) < (t.length : Int)) := by omega
  have gl : pk.gm.glob 4 = .int 1500 := rfl
  rw [call_at (r := r3) rfl rfl]
  unfold parseK
  rw [kSs_eq, callK_eq]
  rw [run_fin]
  show fin3 (evSs pk.gm (CC 57) b3 (startD 3 [.str t]) Hs.empty) = _
  have e1 : evSs pk.gm (CC 57) b3 (startD 3 [.str t]) Hs.empty = evSs pk.gm (CC 57) tail3 [some (.str t), none, none] ⟨[(0, .lst (sD (toks t.length t)))], 1⟩ := by
    rw [b3_is]
    unfold tail3
    have h0 : Hs.empty.n = 0 := rfl
    have h1 : Hs.empty.new (.lst (sD (toks t.length t))) = ⟨[(0, .lst (sD (toks t.length t)))], 1⟩ := rfl
    rw [h0, h1] at sp
    simp [evSs, evS, evE, evAs, startD, sVar, tCmpB, sBlt, len_str, hb, gl, gt_int, lt, sMake, sCall, ck, sp, R.bind, R.thenS, RS.then]
  rw [e1]
theorem parse_long {t : List Nat} (hl : 1500 < t.length) (hb : t.length ≤ big) : ∃ h', CC 58 3 [.str t] Hs.empty = .exc 1 [(18, .str longT), (17, .int 0)] h' := by
  have lt : ((1500 : Int) < (t.length : Int)) := by omega
  have gl : pk.gm.glob 4 = .int 1500 := rfl
  have ge : pk.gm.exc 1 = some [17, 18] := rfl
  refine ⟨Hs.empty, ?_⟩
  rw [call_at (r := r3) rfl rfl]
  simp [runFn, r3, b3_is, evSs, evS, evE, evAs, startD, sVar, tCmpB, sBlt, len_str, hb, gl, gt_int, lt, ge, fmtOk, longT, R.bind, R.thenS, RS.then]
/-- what _law_told tells -/
def eqT (i : Int) (m : List Nat) : List (Nat × D) → Bool
  | [(18, .str l), (17, .int j)] => decide (i = j) && decide (m = l)
  | _ => false
noncomputable def chkOk (t : List Nat) : Bool := match parseK t with
  | .ok _ _ => true
  | _ => false
noncomputable def chkNo (t : List Nat) (i : Int) (m : List Nat) : Bool := match parseK t with
  | .exc 1 fs _ => eqT i m fs
  | _ => false
theorem told_run {t : List Nat} {fs : List (Nat × D)} {h' : Hs} {i : Int} {m : List Nat} (e : CC 58 3 [.str t] Hs.empty = .exc 1 fs h') (ef : eqT i m fs = true) (h : Hs) : pureCall (CC 59) 13 [.str t] h = .ok (.tup [.int i, .str m]) h := by
  have hf : fs = [(18, .str m), (17, .int i)] := by
    unfold eqT at ef
    split at ef
    · simp only [Bool.and_eq_true, decide_eq_true_eq] at ef
      rw [ef.1, ef.2]
    · cases ef
  subst hf
  have ck : ∀ a, ckargs (pk.gm.np 3) [a] = true := fun _ => rfl
  have xo : excOk pk.gm 1 [(18, .str m), (17, .int i)] = true := rfl
  have i1 : pk.gm.isx 1 1 = true := rfl
  have i2 : pk.gm.isx 1 2 = true := rfl
  have i3 : pk.gm.isx 1 3 = true := rfl
  have key : CC 59 13 [.str t] Hs.empty = .ok (.tup [.int i, .str m]) h' := by
    rw [call_at (r := r13) rfl rfl]
    simp [runFn, r13, b13, evSs, evS, evE, evAs, startD, sVar, sCall, ck, e, xo, i1, i2, i3, Su.run, XR.run, xItems, fget, R.bind, R.thenS, RS.then]
  unfold pureCall
  simp [cleans, clean, key]
theorem told_fine {t : List Nat} {d : D} {h' : Hs} (e : CC 58 3 [.str t] Hs.empty = .ok d h') (h : Hs) : pureCall (CC 59) 13 [.str t] h = .ok (.tup []) h := by
  have ck : ∀ a, ckargs (pk.gm.np 3) [a] = true := fun _ => rfl
  have key : CC 59 13 [.str t] Hs.empty = .ok (.tup []) h' := by
    rw [call_at (r := r13) rfl rfl]
    simp [runFn, r13, b13, evSs, evS, evE, evAs, startD, sVar, sCall, ck, e, sTup, R.bind, R.thenS, RS.then]
  unfold pureCall
  simp [cleans, clean, key]
theorem told_no {t : List Nat} {i : Int} {m : List Nat} (hl : t.length ≤ 1500) (hc : chkNo t i m = true) (h : Hs) : pureCall (CC 59) 13 [.str t] h = .ok (.tup [.int i, .str m]) h := by
  unfold chkNo at hc
  rw [← parse_eq hl] at hc
  split at hc
  · rename_i fs h' e
    exact told_run e hc h
  · cases hc
theorem told_yes {t : List Nat} (hl : t.length ≤ 1500) (hc : chkOk t = true) (h : Hs) : pureCall (CC 59) 13 [.str t] h = .ok (.tup []) h := by
  unfold chkOk at hc
  rw [← parse_eq hl] at hc
  split at hc
  · rename_i d h' e
    exact told_fine e h
  · cases hc
theorem told_long {t : List Nat} (hl : 1500 < t.length) (hb : t.length ≤ big) (h : Hs) : pureCall (CC 59) 13 [.str t] h = .ok (.tup [.int 0, .str longT]) h := by
  obtain ⟨h', e⟩ := parse_long hl hb
  exact told_run e rfl h
end K1
end
section
set_option Elab.async false
set_option linter.all false
set_option maxRecDepth 100000
set_option maxHeartbeats 1000000
namespace K1
open Z L2
/-! ### the reader's methods -/
def rdO (k d : Int) : Ob := .ins 5 [(11, .ref 0), (12, .int k), (13, .int d)]
structure Rd (h : Hs) (T : List (List Nat)) (k : Nat) (d : Int) : Prop where
  tk : h.get 0 = some (.lst (sD T))
  rd : h.get 1 = some (rdO k d)
theorem Rd.go {h : Hs} {T : List (List Nat)} {k : Nat} {d : Int} (R : Rd h T k d) (k' : Nat) (d' : Int) : Rd (h.set 1 (rdO k' d')) T k' d' :=
  ⟨(Hs.get_set_ne _ _ (by omega)).trans R.tk, Hs.get_set_same _ _ _⟩
def tokAt (T : List (List Nat)) (k : Nat) : List Nat := (T[k]?).getD []
theorem hf11 : pk.gm.hasF 5 11 = true := rfl
theorem hf12 : pk.gm.hasF 5 12 = true := rfl
theorem hf13 : pk.gm.hasF 5 13 = true := rfl
theorem f11 {h : Hs} {T : List (List Nat)} {k : Nat} {d : Int} (R : Rd h T k d) : fldop pk.gm 11 (.ref 1) h = .ok (.ref 0) h := by
  simp [fldop, R.rd, rdO, hf11, fget]
theorem f12 {h : Hs} {T : List (List Nat)} {k : Nat} {d : Int} (R : Rd h T k d) : fldop pk.gm 12 (.ref 1) h = .ok (.int k) h := by
  simp [fldop, R.rd, rdO, hf12, fget]
theorem f13 {h : Hs} {T : List (List Nat)} {k : Nat} {d : Int} (R : Rd h T k d) : fldop pk.gm 13 (.ref 1) h = .ok (.int d) h := by
  simp [fldop, R.rd, rdO, hf13, fget]
theorem st12 {h : Hs} {T : List (List Nat)} {k : Nat} {d : Int} (R : Rd h T k d) (v : Int) : setFop pk.gm 12 (.ref 1) (.int v) h = .ok () (h.set 1 (rdO v d)) := by
  simp [setFop, R.rd, rdO, hf12, fput]
theorem st13 {h : Hs} {T : List (List Nat)} {k : Nat} {d : Int} (R : Rd h T k d) (v : Int) : setFop pk.gm 13 (.ref 1) (.int v) h = .ok () (h.set 1 (rdO k v)) := by
  simp [setFop, R.rd, rdO, hf13, fput]
theorem ln0 {h : Hs} {T : List (List Nat)} {k : Nat} {d : Int} (R : Rd h T k d) : bltop .len [.ref 0] h = .ok (.int T.length) h := by
  have := len_lst R.tk
  simpa [sD] using this
theorem coming_ok {n : Nat} {h : Hs} {T : List (List Nat)} {k : Nat} {d : Int} (R : Rd h T k d) : CC (n + 1) 16 [.ref 1] h = .ok (.str (tokAt T k)) h := by
  rw [call_at (r := r16) rfl rfl]
  by_cases hk : k < T.length
  · have ix : idxop (.ref 0) (.int k) h = .ok (.str (tokAt T k)) h := idx_lst (k := k) R.tk (by unfold sD tokAt; rw [List.getElem?_map, List.getElem?_eq_getElem hk]; rfl)
    have lt : (k : Int) < (T.length : Int) := by omega
    simp [runFn, r16, b16, evSs, evS, evE, evAs, startD, sVar, tCmpB, Z.sFld, sBlt, sIdx, f11 R, f12 R, ln0 R, lt_int, lt, ix, Z.R.bind, Z.R.thenS, RS.then]
  · have lt : ¬ (k : Int) < (T.length : Int) := by omega
    have e : tokAt T k = [] := by unfold tokAt; rw [List.getElem?_eq_none (by omega)]; rfl
    simp [runFn, r16, b16, evSs, evS, evE, evAs, startD, sVar, tCmpB, Z.sFld, sBlt, sIdx, f11 R, f12 R, ln0 R, lt_int, lt, e, Z.R.bind, Z.R.thenS, RS.then]
theorem me0 : pk.gm.meth 5 0 = some 16 := rfl
theorem me1 : pk.gm.meth 5 1 = some 17 := rfl
theorem me2 : pk.gm.meth 5 2 = some 18 := rfl
theorem me3 : pk.gm.meth 5 3 = some 19 := rfl
theorem me4 : pk.gm.meth 5 4 = some 20 := rfl
theorem me5 : pk.gm.meth 5 5 = some 21 := rfl
theorem me7 : pk.gm.meth 5 7 = some 23 := rfl
theorem me8 : pk.gm.meth 5 8 = some 24 := rfl
theorem me10 : pk.gm.meth 5 10 = some 26 := rfl
theorem me12 : pk.gm.meth 5 12 = some 28 := rfl
theorem me15 : pk.gm.meth 5 15 = some 31 := rfl
theorem m0_ok {C : Cl} {σ : Ev} {h : Hs} {T : List (List Nat)} {k : Nat} {d : Int} {o : SE} {m f : Nat} (R : Rd h T k d) (ho : o σ h = .ok (.ref 1) h) (hm : pk.gm.meth 5 m = some f) (hn : pk.gm.np f = 1) : sMeth pk.gm C o m (fun _ h => .ok [] h) σ h = C f [.ref 1] h := by
  have ck : ckargs (pk.gm.np f) [.ref 1] = true := by rw [hn]; rfl
  simp [sMeth, ho, R.rd, rdO, hm, ck, Z.R.bind]
theorem m1_ok {C : Cl} {σ : Ev} {h : Hs} {T : List (List Nat)} {k : Nat} {d : Int} {o : SE} {a : Z.SA} {x : D} {m f : Nat} (R : Rd h T k d) (ho : o σ h = .ok (.ref 1) h) (ha : a σ h = .ok [x] h) (hm : pk.gm.meth 5 m = some f) (hn : pk.gm.np f = 2) : sMeth pk.gm C o m a σ h = C f [.ref 1, x] h := by
  have ck : ckargs (pk.gm.np f) [.ref 1, x] = true := by rw [hn]; rfl
  simp [sMeth, ho, R.rd, rdO, hm, ha, ck, Z.R.bind]
theorem v0 (v : D) (r : Ev) (h : Hs) : sVar 0 (some v :: r) h = .ok v h := rfl
theorem cls_rd {h : Hs} {T : List (List Nat)} {k : Nat} {d : Int} (R : Rd h T k d) : clsOf h (.ref 1) = some 5 := by simp [clsOf, R.rd, rdO]
theorem take_ok {n : Nat} {h : Hs} {T : List (List Nat)} {k : Nat} {d : Int} (R : Rd h T k d) : CC (n + 2) 18 [.ref 1] h = .ok (.str (tokAt T k)) (h.set 1 (rdO (k + 1) d)) := by
  rw [call_at (r := r18) rfl rfl]
  have c := coming_ok (n := n) R
  simp [runFn, r18, b18, evSs, evS, evE, evAs, startD, m0_ok R (v0 _ _ _) me0 rfl, c, sVar, f12 R, st12 R, cls_rd R, add_int, Z.R.bind, Z.R.thenS, RS.then]
theorem skip_yes {n : Nat} {h : Hs} {T : List (List Nat)} {k : Nat} {d : Int} {s : List Nat} (R : Rd h T k d) (e : tokAt T k = s) : CC (n + 2) 19 [.ref 1, .str s] h = .ok (.bl true) (h.set 1 (rdO (k + 1) d)) := by
  rw [call_at (r := r19) rfl rfl]
  have c := coming_ok (n := n) R
  simp [runFn, r19, b19, evSs, evS, evE, evAs, startD, tCmpB, m0_ok R (v0 _ _ _) me0 rfl, c, e, nev_str, sVar, f12 R, st12 R, cls_rd R, add_int, Z.R.bind, Z.R.thenS, RS.then]
theorem skip_no {n : Nat} {h : Hs} {T : List (List Nat)} {k : Nat} {d : Int} {s : List Nat} (R : Rd h T k d) (e : tokAt T k ≠ s) : CC (n + 2) 19 [.ref 1, .str s] h = .ok (.bl false) h := by
  rw [call_at (r := r19) rfl rfl]
  have c := coming_ok (n := n) R
  simp [runFn, r19, b19, evSs, evS, evE, evAs, startD, tCmpB, m0_ok R (v0 _ _ _) me0 rfl, c, e, nev_str, sVar, Z.R.bind, Z.R.thenS, RS.then]
theorem v1 (u v : Option D) (x : D) (r : Ev) (h : Hs) : sVar 1 (u :: some x :: r) h = .ok x h := rfl
theorem expect_ok {n : Nat} {h : Hs} {T : List (List Nat)} {k : Nat} {d : Int} {s : List Nat} (R : Rd h T k d) (e : tokAt T k = s) : CC (n + 3) 20 [.ref 1, .str s] h = .ok .non (h.set 1 (rdO (k + 1) d)) := by
  rw [call_at (r := r20) rfl rfl]
  have c := skip_yes (n := n) R e
  have m : sMeth pk.gm (CC (n + 2)) (sVar 0) 3 (fun σ h => (sVar 1 σ h).bind fun d h1 => .ok [d] h1) [some (.ref 1), some (.str s)] h = .ok (.bl true) (h.set 1 (rdO (k + 1) d)) :=
    (m1_ok R rfl rfl me3 rfl).trans c
  simp only [Z.R.bind] at m
  simp [runFn, r20, b20, evSs, evS, evE, evAs, startD, tNotB, valT, m, tru, Z.R.bind, Z.R.thenS, RS.then]
def tokE : List Nat := [117, 110, 101, 120, 112, 101, 99, 116, 101, 100, 32, 101, 110, 100]
abbrev excE (T : List (List Nat)) : List (Nat × D) := [(18, .str tokE), (17, .int (T.length + 1))]
theorem refuse_end {n : Nat} {h : Hs} {T : List (List Nat)} {k : Nat} {d : Int} (R : Rd h T k d) (e : T.length ≤ k) (hl : T.length < 100000) : CC (n + 1) 17 [.ref 1] h = .exc 1 (excE T) h := by
  rw [call_at (r := r17) rfl rfl]
  have lt : ¬ (k : Int) < (T.length : Int) := by omega
  have ge : pk.gm.exc 1 = some [17, 18] := rfl
  have lg : ((T.length : Int) + 1).natAbs.log2 < 1920 := Nat.lt_trans (log_small (by omega)) (by decide)
  simp [runFn, r17, b17, evSs, evS, evE, evAs, startD, sVar, tCmpB, Z.sFld, sBlt, sBin, f11 R, f12 R, ln0 R, lt_int, lt, add_int, ge, fmtOk, lg, tokE, Z.R.bind, Z.R.thenS, RS.then]
theorem tokAt_end {T : List (List Nat)} {k : Nat} (e : T.length ≤ k) : tokAt T k = [] := by unfold tokAt; rw [List.getElem?_eq_none e]; rfl
theorem letter_nil {n : Nat} {h : Hs} : CC (n + 1) 7 [.str []] h = .ok (.bl false) h := by
  rw [call_at (r := r7) rfl rfl]
  have e1 : decide (([] : List Nat) < [97]) = true := by decide
  simp [runFn, r7, b7, evSs, evS, evE, startD, sVar, sChn, cmpop, le_str, Z.R.bind, Z.R.thenS, RS.then, e1]
theorem name_nil {n : Nat} {h : Hs} : CC (n + 2) 8 [.str []] h = .ok (.bl false) h := by
  rw [call_at (r := r8) rfl rfl]
  have ck : ∀ a, ckargs (pk.gm.np 7) [a] = true := fun _ => rfl
  have sl : slcop (.str []) none (some 1) h = .ok (.str []) h := by
    show (if ([] : List Nat).length ≤ big then R.ok (D.str (cutD [] none (some 1))) h else .bad) = _
    rw [if_pos (by decide)]
    rfl
  simp [runFn, r8, b8, evSs, evS, evE, evAs, evO, optI, startD, sVar, sCall, ck, sSlc, sl, letter_nil, sAnd, Z.R.bind, Z.R.thenS, RS.then]
theorem name_f {n : Nat} {h : Hs} : CC (n + 2) 8 [.str [102]] h = .ok (.bl true) h := by
  rw [call_at (r := r8) rfl rfl]
  have ck : ∀ a, ckargs (pk.gm.np 7) [a] = true := fun _ => rfl
  have sl : slcop (.str [102]) none (some 1) h = .ok (.str [102]) h := by
    show (if ([102] : List Nat).length ≤ big then R.ok (D.str (cutD [102] none (some 1))) h else .bad) = _
    rw [if_pos (by decide)]
    rfl
  have ll : isLet 102 = true := rfl
  have l1 : bltop .len [.str [102]] h = .ok (.int 1) h := len_str h (by decide)
  have g6 : ∃ ws, pk.gm.glob 7 = ws ∧ cmpop .notin (.str [102]) ws h = .ok (.bl true) h ∧ cmpop .le (.int 1) (pk.gm.glob 6) h = .ok (.bl true) h := ⟨_, rfl, rfl, rfl⟩
  obtain ⟨ws, e1, e2, e3⟩ := g6
  simp [runFn, r8, b8, evSs, evS, evE, evAs, evO, optI, startD, sVar, sCall, ck, sSlc, sl, letter_ok, ll, sAnd, sBlt, l1, sCmp, e1, e2, e3, Z.R.bind, Z.R.thenS, RS.then]
theorem name_end {n : Nat} {h : Hs} {T : List (List Nat)} {k : Nat} {d : Int} (R : Rd h T k d) (e : T.length ≤ k) (hl : T.length < 100000) : CC (n + 3) 21 [.ref 1] h = .exc 1 (excE T) h := by
  rw [call_at (r := r21) rfl rfl]
  have c := coming_ok (n := n + 1) R
  rw [tokAt_end e] at c
  have ck : ∀ a, ckargs (pk.gm.np 8) [a] = true := fun _ => rfl
  have r := refuse_end (n := n + 1) R e hl
  simp [runFn, r21, b21, evSs, evS, evE, evAs, startD, tNotB, valT, sCall, ck, m0_ok R (v0 _ _ _) me0 rfl, m0_ok R (v0 _ _ _) me1 rfl, c, r, name_nil, tru, Z.R.bind, Z.R.thenS, RS.then]
theorem name_ok {n : Nat} {h : Hs} {T : List (List Nat)} {k : Nat} {d : Int} (R : Rd h T k d) (e : tokAt T k = [102]) : CC (n + 3) 21 [.ref 1] h = .ok (.str [102]) (h.set 1 (rdO (k + 1) d)) := by
  rw [call_at (r := r21) rfl rfl]
  have c := coming_ok (n := n + 1) R
  have t := take_ok (n := n) R
  rw [e] at c t
  have ck : ∀ a, ckargs (pk.gm.np 8) [a] = true := fun _ => rfl
  simp [runFn, r21, b21, evSs, evS, evE, evAs, startD, tNotB, valT, sCall, ck, m0_ok R (v0 _ _ _) me0 rfl, m0_ok R (v0 _ _ _) me2 rfl, c, t, name_f, tru, Z.R.bind, Z.R.thenS, RS.then]
theorem cos_end {n : Nat} {h : Hs} {T : List (List Nat)} {k : Nat} {d : Int} (R : Rd h T k d) (e : T.length ≤ k) (hl : T.length < 100000) : CC (n + 4) 31 [.ref 1] h = .exc 1 (excE T) h := by
  rw [call_at (r := r31) rfl rfl]
  have r := name_end (n := n) R e hl
  simp [runFn, r31, b31, evSs, evS, evE, evAs, startD, m0_ok R (v0 _ _ _) me5 rfl, r, Z.R.bind, Z.R.thenS, RS.then]
theorem in_strs (h : Hs) (a : List Nat) (l : List (List Nat)) : cmpv h .isin (.str a) (.tup (l.map D.str)) = some (l.any fun y => decide (y = a)) := by
  have k0 : kvOf h (.tup (l.map D.str)) = none := rfl
  have s0 : seqOf h (.tup (l.map D.str)) = some (l.map D.str) := rfl
  have fl : (l.map D.str).all flatD = true := by
    rw [List.all_map]
    exact List.all_eq_true.mpr fun _ _ => rfl
  have fa : flatD (.str a) = true := rfl
  have an : ((l.map D.str).any fun y => eqF y (.str a)) = l.any fun y => decide (y = a) := by
    rw [List.any_map]
    rfl
  simp only [cmpv, din, k0, s0, fl, fa, Bool.and_self, if_true, an]
theorem stat_end {n : Nat} {h : Hs} {T : List (List Nat)} {k : Nat} {d : Int} (R : Rd h T k d) (e : T.length ≤ k) (hl : T.length < 100000) : CC (n + 5) 28 [.ref 1] h = .exc 1 (excE T) h := by
  rw [call_at (r := r28) rfl rfl]
  have c := coming_ok (n := n + 3) R
  rw [tokAt_end e] at c
  have r := cos_end (n := n) R e hl
  have i1 := in_strs h [] [[114, 101, 97, 100], [119, 114, 105, 116, 101], [100, 114, 111, 112]]
  have i2 := in_strs h [] [[98, 114, 101, 97, 107], [99, 111, 110, 116, 105, 110, 117, 101]]
  simp only [List.map] at i1 i2
  simp [runFn, r28, b28, evSs, evS, evE, evAs, startD, m0_ok R (v0 _ _ _) me0 rfl, m0_ok R (v0 _ _ _) me15 rfl, c, r, sVar, tCmpB, sTup, big, eqv_str, i1, i2, Z.R.bind, Z.R.thenS, RS.then]
/-! ### the body -/
def obH (h : Hs) (w : List Nat) : Hs := (h.new (.ins 6 [(14, .str w), (15, .tup []), (16, .ref (h.n + 1))])).new (.lst [])
theorem hf14 : pk.gm.hasF 6 14 = true := rfl
theorem hf15 : pk.gm.hasF 6 15 = true := rfl
theorem hf16 : pk.gm.hasF 6 16 = true := rfl
theorem make_key {n : Nat} {h : Hs} {w : List Nat} : CC (n + 1) 35 [.ref h.n, .str w, .tup []] (h.new (.ins 6 [])) = .ok .non (obH h w) := by
  rw [call_at (r := r35) rfl rfl]
  simp [runFn, r35, b35, evSs, evS, evE, evAs, startD, sVar, setFop, hf14, hf15, hf16, fput, sLst, obH, Hs.new, Hs.set, Hs.pt, Hs.get, Hs.lk, Z.R.bind, Z.R.thenS, RS.then]
theorem i6 : pk.gm.init 6 = some 35 := rfl
theorem ck35 (a b c : D) : ckargs (pk.gm.np 35) [a, b, c] = true := rfl
theorem ck19 (a b : D) : ckargs (pk.gm.np 19) [a, b] = true := rfl
theorem ck20 (a b : D) : ckargs (pk.gm.np 20) [a, b] = true := rfl
theorem ck16 (a : D) : ckargs (pk.gm.np 16) [a] = true := rfl
theorem ck18 (a : D) : ckargs (pk.gm.np 18) [a] = true := rfl
theorem ck28 (a : D) : ckargs (pk.gm.np 28) [a] = true := rfl
/-- the loop's head: i blocks are open behind the body -/
structure BI (h : Hs) (T : List (List Nat)) (b i k : Nat) : Prop where
  rd : ∃ d : Int, Rd h T k d
  b1 : 1 < b
  bn : b < h.n
  bl : ∃ (bl : List D) (q s : Nat) (w : D) (ls : List D), h.get b = some (.lst bl) ∧ bl.length = i + 1 ∧ bl[i]? = some (.ref q) ∧ q < h.n ∧ s < h.n ∧ q ≠ 1 ∧ s ≠ 1 ∧ q ≠ b ∧ s ≠ b ∧ (∃ f, h.get q = some (.ins 6 [(14, w), (15, f), (16, .ref s)])) ∧ h.get s = some (.lst ls)
def CB : E := .con (.bl true)
def IF : Ss := (.cons (.set 3 (.meth (.var 0) 2 .nil)) (.cons (.expr (.meth (.var 0) 4 (.cons (.con (.str [123])) .nil))) (.cons (.expr (.bm .append (.var 1) (.cons (.make 6 (.cons (.var 3) (.cons (.tup .nil) .nil))) .nil))) .nil)))
def BB : Ss := (.cons (.setF (.var 0) 13 (.blt .max (.cons (.fld (.var 0) 13) (.cons (.blt .len (.cons (.var 1) .nil)) .nil)))) (.cons (.set 2 (.idx (.var 1) (.con (.int (-1))))) (.cons (.cond (.meth (.var 0) 3 (.cons (.con (.str [125])) .nil)) (.cons (.expr (.bm .pop (.var 1) .nil)) (.cons (.cond (.not (.var 1)) (.cons (.ret (.blt .tuple (.cons (.fld (.var 2) 16) .nil))) .nil) .nil) (.cons (.expr (.meth (.var 0) 11 (.cons (.var 2) (.cons (.var 1) .nil)))) .nil))) (.cons (.cond (.cmp .isin (.meth (.var 0) 0 .nil) (.tup (.cons (.con (.str [105, 102])) (.cons (.con (.str [108, 111, 111, 112])) .nil)))) IF (.cons (.expr (.bm .append (.fld (.var 2) 16) (.cons (.meth (.var 0) 12 .nil) .nil))) .nil)) .nil)) .nil)))
theorem b26_is : b26 = (.cons (.expr (.meth (.var 0) 4 (.cons (.con (.str [123])) .nil))) (.cons (.set 1 (.lst (.cons (.make 6 (.cons (.con (.str [98, 111, 100, 121])) (.cons (.tup .nil) .nil))) .nil))) (.cons (.whl CB BB) .nil))) := rfl
theorem idx_last {h : Hs} {n i : Nat} {ds : List D} {d : D} (g : h.get n = some (.lst ds)) (hl : ds.length = i + 1) (e : ds[i]? = some d) : idxop (.ref n) (.int (-1)) h = .ok d h := by
  have a : atI ds (-1) = some d := by
    unfold atI ixN
    rw [if_neg (by omega), if_pos (by omega), hl]
    show ds[((-1 : Int) + ((i + 1 : Nat) : Int)).toNat]? = some d
    rw [show ((-1 : Int) + ((i + 1 : Nat) : Int)).toNat = i by omega]
    exact e
  simp only [idxop, kv_lst g, seq_lst g, a]
theorem body_go {n : Nat} {h : Hs} {T : List (List Nat)} {b i k : Nat} (B : BI h T b i k) (t1 : tokAt T k = [105, 102]) (t2 : tokAt T (k + 1) = [123]) (hi : i < 100000) (x2 x3 : Option D) :
    ∃ y2 y3 h', evSs pk.gm (CC (n + 4)) BB [some (.ref 1), some (.ref b), x2, x3] h = .nx [some (.ref 1), some (.ref b), y2, y3] h' ∧ BI h' T b (i + 1) (k + 2) := by
  obtain ⟨⟨d, R⟩, b1, bn, bl, q, s, w, ls, gb, lb, eb, qn, sn, q1, s1, qb, sb, ⟨f, gq⟩, gs⟩ := B
  have lenb : bltop .len [.ref b] h = .ok (.int ((i : Int) + 1)) h := by
    have := len_lst gb
    rw [lb] at this
    exact this
  obtain ⟨d', hd'⟩ : ∃ d', bltop .max [.int d, .int ((i : Int) + 1)] h = .ok (.int d') h := ⟨_, max_int _ _ _⟩
  have R1 := R.go k d'
  have gb1 : (h.set 1 (rdO k d')).get b = some (.lst bl) := (Hs.get_set_ne _ _ (by omega)).trans gb
  have ix := idx_last gb1 lb eb
  have sk := skip_no (n := n + 2) (s := [125]) R1 (by rw [t1]; decide)
  have cm := coming_ok (n := n + 3) R1
  rw [t1] at cm
  have isin := in_strs (h.set 1 (rdO k d')) [105, 102] [[105, 102], [108, 111, 111, 112]]
  simp only [List.map] at isin
  have tke := take_ok (n := n + 2) R1
  rw [t1] at tke
  have R2 := R1.go (k + 1) d'
  have ex := expect_ok (n := n + 1) R2 t2
  have R3 := R2.go (k + 1 + 1) d'
  generalize hh1 : h.set 1 (rdO k d') = h1 at *
  have n1 : h1.n = h.n := by rw [← hh1]; rfl
  have c1 : rdO ((k : Int) + 1) d' = rdO ((k + 1 : Nat) : Int) d' := rfl
  rw [c1] at tke
  generalize hh2 : h1.set 1 (rdO ((k + 1 : Nat) : Int) d') = h2 at *
  have n2 : h2.n = h.n := by rw [← hh2]; exact n1
  have c2 : rdO (((k + 1 : Nat) : Int) + 1) d' = rdO ((k + 1 + 1 : Nat) : Int) d' := rfl
  rw [c2] at ex
  have keep : ∀ x, x ≠ 1 → (h2.set 1 (rdO ((k + 1 + 1 : Nat) : Int) d')).get x = h.get x := fun x hx => by
    rw [Hs.get_set_ne _ _ hx, ← hh2, Hs.get_set_ne _ _ hx, ← hh1, Hs.get_set_ne _ _ hx]
  generalize hh3 : h2.set 1 (rdO ((k + 1 + 1 : Nat) : Int) d') = h3 at *
  have n3 : h3.n = h.n := by rw [← hh3]; exact n2
  have gb3 : h3.get b = some (.lst bl) := (keep b (by omega)).trans gb
  have gb4 : (obH h3 [105, 102]).get b = some (.lst bl) := by
    unfold obH
    rw [Hs.get_new_ne _ _ (by show b ≠ h3.n + 1; omega), Hs.get_new_ne _ _ (by omega)]
    exact gb3
  have mk := make_key (n := n + 3) (h := h3) (w := [105, 102])
  have ap := append_ok (d := .ref h3.n) gb4 (by rw [lb]; show i + 1 < 1000000; omega)
  refine ⟨some (.ref q), some (.str [105, 102]), (obH h3 [105, 102]).set b (.lst (bl ++ [.ref h3.n])), ?_, ?_⟩
  · have st : setFop pk.gm 13 (.ref 1) (.int d') h = .ok () h1 := by rw [← hh1]; exact st13 R d'
    have fd : fldop pk.gm 13 (.ref 1) h = .ok (.int d) h := f13 R
    have g1 : h1.get 1 = some (.ins 5 [(11, .ref 0), (12, .int k), (13, .int d')]) := R1.rd
    have g2 : h2.get 1 = some (.ins 5 [(11, .ref 0), (12, .int (k + 1 : Nat)), (13, .int d')]) := R2.rd
    have rc := recvL_of gb3
    simp [BB, IF, evSs, evS, evE, evAs, sVar, Z.sFld, sBlt, sIdx, sMeth, tCmpB, valT, tru, sTup, big, sBm, sMake, fd, lenb, hd', st, ix, g1, g2, me0, me2, me3, me4, ck16, ck18, ck19, ck20, ck35, i6, sk, cm, isin, tke, ex, rc, mk, ap, Z.R.bind, Z.R.thenS, RS.then]
  · have o0 : ∀ x, x < h.n → x ≠ 1 → x ≠ b → ((obH h3 [105, 102]).set b (.lst (bl ++ [.ref h3.n]))).get x = h.get x := fun x h1 h2 h3' => by
      rw [Hs.get_set_ne _ _ h3']
      unfold obH
      rw [Hs.get_new_ne _ _ (by show x ≠ h3.n + 1; omega), Hs.get_new_ne _ _ (by omega)]
      exact keep x h2
    have oq : ((obH h3 [105, 102]).set b (.lst (bl ++ [.ref h3.n]))).get h3.n = some (.ins 6 [(14, .str [105, 102]), (15, .tup []), (16, .ref (h3.n + 1))]) := by
      rw [Hs.get_set_ne _ _ (by omega)]
      unfold obH
      rw [Hs.get_new_ne _ _ (by show h3.n ≠ h3.n + 1; omega), Hs.get_new_same]
    have os : ((obH h3 [105, 102]).set b (.lst (bl ++ [.ref h3.n]))).get (h3.n + 1) = some (.lst []) := by
      rw [Hs.get_set_ne _ _ (by omega)]
      exact Hs.get_new_same _ _
    have o1 : ((obH h3 [105, 102]).set b (.lst (bl ++ [.ref h3.n]))).get 1 = h3.get 1 := by
      rw [Hs.get_set_ne _ _ (by omega)]
      unfold obH
      rw [Hs.get_new_ne _ _ (by show 1 ≠ h3.n + 1; omega), Hs.get_new_ne _ _ (by omega)]
    have on : ((obH h3 [105, 102]).set b (.lst (bl ++ [.ref h3.n]))).n = h3.n + 1 + 1 := rfl
    refine ⟨⟨d', ?_, ?_⟩, b1, by rw [on]; omega, bl ++ [.ref h3.n], h3.n, h3.n + 1, _, _, Hs.get_set_same _ _ _, by rw [List.length_append, lb]; rfl, by rw [List.getElem?_append_right (by omega), lb, Nat.sub_self]; rfl, by rw [on]; omega, by rw [on]; omega, by omega, by omega, by omega, by omega, ⟨_, oq⟩, os⟩
    · rw [o0 0 (by omega) (by omega) (by omega)]
      exact R.tk
    · rw [o1]
      exact R3.rd
end K1
end
section
set_option Elab.async false
set_option linter.all false
set_option maxRecDepth 100000
set_option maxHeartbeats 1000000
namespace K1
open Z L2
theorem body_end {n : Nat} {h : Hs} {T : List (List Nat)} {b i k : Nat} (B : BI h T b i k) (e : T.length ≤ k) (hl : T.length < 100000) (x2 x3 : Option D) :
    ∃ σ' h', evSs pk.gm (CC (n + 5)) BB [some (.ref 1), some (.ref b), x2, x3] h = .exc 1 (excE T) σ' h' := by
  obtain ⟨⟨d, R⟩, b1, bn, bl, q, s, w, ls, gb, lb, eb, qn, sn, q1, s1, qb, sb, ⟨f, gq⟩, gs⟩ := B
  have lenb : bltop .len [.ref b] h = .ok (.int ((i : Int) + 1)) h := by
    have := len_lst gb
    rw [lb] at this
    exact this
  obtain ⟨d', hd'⟩ : ∃ d', bltop .max [.int d, .int ((i : Int) + 1)] h = .ok (.int d') h := ⟨_, max_int _ _ _⟩
  have R1 := R.go k d'
  have gb1 : (h.set 1 (rdO k d')).get b = some (.lst bl) := (Hs.get_set_ne _ _ (by omega)).trans gb
  have gq1 : (h.set 1 (rdO k d')).get q = some (.ins 6 [(14, w), (15, f), (16, .ref s)]) := (Hs.get_set_ne _ _ q1).trans gq
  have gs1 : (h.set 1 (rdO k d')).get s = some (.lst ls) := (Hs.get_set_ne _ _ s1).trans gs
  have ix := idx_last gb1 lb eb
  have t1 := tokAt_end e
  have sk := skip_no (n := n + 3) (s := [125]) R1 (by rw [t1]; decide)
  have cm := coming_ok (n := n + 4) R1
  rw [t1] at cm
  have isin := in_strs (h.set 1 (rdO k d')) [] [[105, 102], [108, 111, 111, 112]]
  simp only [List.map] at isin
  have se := stat_end (n := n) R1 e hl
  have fs : fldop pk.gm 16 (.ref q) (h.set 1 (rdO k d')) = .ok (.ref s) (h.set 1 (rdO k d')) := by simp [fldop, gq1, hf16, fget]
  have rc := recvL_of gs1
  have st := st13 R d'
  have fd : fldop pk.gm 13 (.ref 1) h = .ok (.int d) h := f13 R
  generalize hh1 : h.set 1 (rdO k d') = h1 at *
  have g1 : h1.get 1 = some (.ins 5 [(11, .ref 0), (12, .int k), (13, .int d')]) := R1.rd
  refine ⟨[some (.ref 1), some (.ref b), some (.ref q), x3], h1, ?_⟩
  simp [BB, evSs, evS, evE, evAs, sVar, Z.sFld, sBlt, sIdx, sMeth, tCmpB, valT, tru, sTup, big, sBm, fd, lenb, hd', st, ix, g1, me0, me3, me12, ck16, ck19, ck28, sk, cm, isin, fs, rc, se, Z.R.bind, Z.R.thenS, RS.then]
theorem body_loop {n : Nat} {T : List (List Nat)} {b : Nat} (hl : T.length < 100000) : ∀ (m i k : Nat) (h : Hs) (x2 x3 : Option D) (fuel : Nat), BI h T b i k → (∀ j, j < m → tokAt T (k + 2 * j) = [105, 102] ∧ tokAt T (k + 2 * j + 1) = [123]) → T.length ≤ k + 2 * m → i + m < 100000 → m < fuel →
    ∃ σ' h', whileN (evE pk.gm (CC (n + 5)) CB).2 (evSs pk.gm (CC (n + 5)) BB) fuel [some (.ref 1), some (.ref b), x2, x3] h = .exc 1 (excE T) σ' h'
  | 0, i, k, h, x2, x3, 0, _, _, _, _, hf => by omega
  | m + 1, i, k, h, x2, x3, 0, _, _, _, _, hf => by omega
  | 0, i, k, h, x2, x3, fuel + 1, B, _, he, _, _ => by
    obtain ⟨σ', h', e⟩ := body_end (n := n) B (by omega) hl x2 x3
    refine ⟨σ', h', ?_⟩
    simp [whileN, CB, evE, valT, tru, Z.R.bind, Z.R.thenS, e]
  | m + 1, i, k, h, x2, x3, fuel + 1, B, ht, he, hi, hf => by
    obtain ⟨y2, y3, h1, e, B1⟩ := body_go (n := n + 1) B (ht 0 (by omega)).1 (ht 0 (by omega)).2 (by omega) x2 x3
    obtain ⟨σ', h', e2⟩ := body_loop (n := n) hl m (i + 1) (k + 2) h1 y2 y3 fuel B1 (fun j hj => by
      have := ht (j + 1) (by omega)
      rw [show k + 2 * (j + 1) = k + 2 + 2 * j by omega] at this
      exact this) (by omega) (by omega) (by omega)
    refine ⟨σ', h', ?_⟩
    simp [whileN, CB, evE, valT, tru, Z.R.bind, Z.R.thenS, e]
    simpa [CB, evE, valT, tru] using e2
theorem Rd.new {h : Hs} {T : List (List Nat)} {k : Nat} {d : Int} (R : Rd h T k d) (hn : 1 < h.n) (o : Ob) : Rd (h.new o) T k d :=
  ⟨(Hs.get_new_ne _ _ (by omega)).trans R.tk, (Hs.get_new_ne _ _ (by omega)).trans R.rd⟩
theorem fn_body {n : Nat} {h : Hs} {T : List (List Nat)} {k m : Nat} {d : Int} (R : Rd h T k d) (hn : 1 < h.n) (t : tokAt T k = [123]) (ht : ∀ j, j < m → tokAt T (k + 1 + 2 * j) = [105, 102] ∧ tokAt T (k + 1 + 2 * j + 1) = [123]) (he : T.length ≤ k + 1 + 2 * m) (hm : m < 10000) (hl : T.length < 100000) :
    ∃ h', CC (n + 6) 26 [.ref 1] h = .exc 1 (excE T) h' := by
  have ex := expect_ok (n := n + 2) R t
  have R1 := R.go (k + 1) d
  have c1 : rdO ((k : Int) + 1) d = rdO ((k + 1 : Nat) : Int) d := rfl
  rw [c1] at ex
  have n1 : (h.set 1 (rdO ((k + 1 : Nat) : Int) d)).n = h.n := rfl
  generalize h.set 1 (rdO ((k + 1 : Nat) : Int) d) = h1 at *
  have mk := make_key (n := n + 4) (h := h1) (w := [98, 111, 100, 121])
  have R2 : Rd (((obH h1 [98, 111, 100, 121])).new (.lst [.ref h1.n])) T (k + 1) d := by
    unfold obH
    exact ((R1.new (by omega) _).new (by show 1 < h1.n + 1; omega) _).new (by show 1 < h1.n + 1 + 1; omega) _
  have on : (obH h1 [98, 111, 100, 121]).n = h1.n + 2 := rfl
  have B : BI ((obH h1 [98, 111, 100, 121]).new (.lst [.ref h1.n])) T (h1.n + 2) 0 (k + 1) := by
    refine ⟨⟨d, R2⟩, by omega, by show h1.n + 2 < h1.n + 2 + 1; omega, [.ref h1.n], h1.n, h1.n + 1, .str [98, 111, 100, 121], [], ?_, rfl, rfl, by show h1.n < h1.n + 2 + 1; omega, by show h1.n + 1 < h1.n + 2 + 1; omega, by omega, by omega, by omega, by omega, ⟨.tup [], ?_⟩, ?_⟩
    · exact Hs.get_new_same _ _
    · rw [Hs.get_new_ne _ _ (by show h1.n ≠ h1.n + 2; omega)]
      unfold obH
      rw [Hs.get_new_ne _ _ (by show h1.n ≠ h1.n + 1; omega), Hs.get_new_same]
    · rw [Hs.get_new_ne _ _ (by show h1.n + 1 ≠ h1.n + 2; omega)]
      exact Hs.get_new_same _ _
  obtain ⟨σ', h', w⟩ := body_loop (n := n) hl m 0 (k + 1) _ none none loopFuel B ht he (by omega) (by rw [fuel_big]; omega)
  refine ⟨h', ?_⟩
  rw [call_at (r := r26) rfl rfl]
  have g0 : h.get 1 = some (.ins 5 [(11, .ref 0), (12, .int k), (13, .int d)]) := R.rd
  simp [runFn, r26, b26_is, evSs, evS, evE, evAs, startD, sVar, sMeth, sMake, sLst, sTup, big, g0, me4, ck20, ck35, i6, ex, mk, on, w, Z.R.bind, Z.R.thenS, RS.then]
end K1
end
section
set_option Elab.async false
set_option linter.all false
set_option maxRecDepth 100000
set_option maxHeartbeats 1000000
namespace K1
open Z L2
theorem ck21 (a : D) : ckargs (pk.gm.np 21) [a] = true := rfl
theorem ck23 (a : D) : ckargs (pk.gm.np 23) [a] = true := rfl
theorem ck24 (a : D) : ckargs (pk.gm.np 24) [a] = true := rfl
theorem ck26 (a : D) : ckargs (pk.gm.np 26) [a] = true := rfl
theorem pars_ok {n : Nat} {h : Hs} {T : List (List Nat)} {k : Nat} {d : Int} (R : Rd h T k d) (hn : 1 < h.n) (t1 : tokAt T k = [40]) (t2 : tokAt T (k + 1) = [41]) : ∃ h', CC (n + 4) 24 [.ref 1] h = .ok (.tup []) h' ∧ Rd h' T (k + 2) d ∧ 1 < h'.n := by
  have ex := expect_ok (n := n) R t1
  have R1 := R.go (k + 1) d
  have c1 : rdO ((k : Int) + 1) d = rdO ((k + 1 : Nat) : Int) d := rfl
  rw [c1] at ex
  have n1 : (h.set 1 (rdO ((k + 1 : Nat) : Int) d)).n = h.n := rfl
  generalize h.set 1 (rdO ((k + 1 : Nat) : Int) d) = h1 at *
  have R2 := R1.new (by omega) (.lst [])
  have sk := skip_yes (n := n + 1) R2 t2
  have c2 : rdO (((k + 1 : Nat) : Int) + 1) d = rdO ((k + 1 + 1 : Nat) : Int) d := rfl
  rw [c2] at sk
  have g0 : h.get 1 = some (.ins 5 [(11, .ref 0), (12, .int k), (13, .int d)]) := R.rd
  have g2 : (h1.new (.lst [])).get 1 = some (.ins 5 [(11, .ref 0), (12, .int (k + 1 : Nat)), (13, .int d)]) := R2.rd
  refine ⟨(h1.new (.lst [])).set 1 (rdO ((k + 1 + 1 : Nat) : Int) d), ?_, R2.go (k + 1 + 1) d, by show 1 < h1.n + 1; omega⟩
  rw [call_at (r := r24) rfl rfl]
  simp [runFn, r24, b24, evSs, evS, evE, evAs, startD, sVar, sMeth, sLst, sTup, valT, tru, g0, g2, me3, me4, ck19, ck20, ex, sk, Z.R.bind, Z.R.thenS, RS.then]
theorem func_end {n : Nat} {h : Hs} {T : List (List Nat)} {m : Nat} {d : Int} (R : Rd h T 0 d) (hn : 1 < h.n) (t0 : tokAt T 0 = [102, 110]) (t1 : tokAt T 1 = [102]) (t2 : tokAt T 2 = [40]) (t3 : tokAt T 3 = [41]) (t4 : tokAt T 4 = [123])
    (ht : ∀ j, j < m → tokAt T (5 + 2 * j) = [105, 102] ∧ tokAt T (5 + 2 * j + 1) = [123]) (he : T.length ≤ 5 + 2 * m) (hm : m < 10000) (hl : T.length < 100000) : ∃ h', CC (n + 7) 23 [.ref 1] h = .exc 1 (excE T) h' := by
  have ex := expect_ok (n := n + 3) R t0
  have R1 := R.go (0 + 1) d
  have c1 : rdO (((0 : Nat) : Int) + 1) d = rdO ((0 + 1 : Nat) : Int) d := rfl
  rw [c1] at ex
  have n1 : (h.set 1 (rdO ((0 + 1 : Nat) : Int) d)).n = h.n := rfl
  generalize h.set 1 (rdO ((0 + 1 : Nat) : Int) d) = h1 at *
  have nm := name_ok (n := n + 3) R1 t1
  have R2 := R1.go (0 + 1 + 1) d
  have c2 : rdO (((0 + 1 : Nat) : Int) + 1) d = rdO ((0 + 1 + 1 : Nat) : Int) d := rfl
  rw [c2] at nm
  have n2 : (h1.set 1 (rdO ((0 + 1 + 1 : Nat) : Int) d)).n = h1.n := rfl
  generalize h1.set 1 (rdO ((0 + 1 + 1 : Nat) : Int) d) = h2 at *
  obtain ⟨h3, ps, R3, n3⟩ := pars_ok (n := n + 2) R2 (by omega) t2 t3
  have sk := skip_no (n := n + 4) (s := [45, 62]) R3 (by rw [t4]; decide)
  obtain ⟨h4, bd⟩ := fn_body (n := n) R3 n3 t4 ht he hm hl
  have g0 : h.get 1 = some (.ins 5 [(11, .ref 0), (12, .int (0 : Nat)), (13, .int d)]) := R.rd
  have g1 : h1.get 1 = some (.ins 5 [(11, .ref 0), (12, .int (0 + 1 : Nat)), (13, .int d)]) := R1.rd
  have g2 : h2.get 1 = some (.ins 5 [(11, .ref 0), (12, .int (0 + 1 + 1 : Nat)), (13, .int d)]) := R2.rd
  have g3 : h3.get 1 = some (.ins 5 [(11, .ref 0), (12, .int (0 + 1 + 1 + 2 : Nat)), (13, .int d)]) := R3.rd
  refine ⟨h4, ?_⟩
  rw [call_at (r := r23) rfl rfl]
  simp [runFn, r23, b23, evSs, evS, evE, evAs, startD, sVar, sMeth, sTup, valT, tru, g0, g1, g2, g3, me3, me4, me5, me8, me10, ck19, ck20, ck21, ck24, ck26, ex, nm, ps, sk, bd, Z.R.bind, Z.R.thenS, RS.then]
/-! ### the text that is cut ever deeper -/
def preT : List Nat := [102, 110, 32, 102, 40, 41, 123]
def rep (n : Nat) (l : List Nat) : List Nat := (List.replicate n l).flatten
def ifs : Nat → List (List Nat)
  | 0 => []
  | n + 1 => [105, 102] :: [123] :: ifs n
theorem rep_succ (n : Nat) (l : List Nat) : rep (n + 1) l = l ++ rep n l := by
  unfold rep
  rw [List.replicate_succ, List.flatten_cons]
theorem rep_len (n : Nat) (l : List Nat) : (rep n l).length = n * l.length := by
  induction n with
  | zero => simp [rep]
  | succ n ih => rw [rep_succ, List.length_append, ih, Nat.succ_mul]; omega
theorem toks_ifs : ∀ (m f : Nat), 3 * m ≤ f → toks f (rep m [105, 102, 123]) = ifs m
  | 0, f, _ => by cases f <;> rfl
  | m + 1, f, h => by
    obtain ⟨f', rfl⟩ : ∃ f', f = f' + 2 := ⟨f - 2, by omega⟩
    rw [rep_succ]
    have ih := toks_ifs m f' (by omega)
    have k1 : tk ([105, 102, 123] ++ rep m [105, 102, 123]) = 2 := by
      unfold tk
      rw [if_neg (by simp)]
      rfl
    have k2 : ∀ r, tk (123 :: r) = 1 := fun r => by
      unfold tk
      rw [if_neg (by cases r <;> simp)]
      rfl
    have e1 : toks (f' + 2) ([105, 102, 123] ++ rep m [105, 102, 123]) = [105, 102] :: toks (f' + 1) (123 :: rep m [105, 102, 123]) := by
      show (if (105 : Nat) = 32 ∨ (105 : Nat) = 10 then _ else _) = _
      rw [if_neg (by decide)]
      show List.take (tk ([105, 102, 123] ++ rep m [105, 102, 123])) ([105, 102, 123] ++ rep m [105, 102, 123]) :: toks (f' + 1) (List.drop (tk ([105, 102, 123] ++ rep m [105, 102, 123])) ([105, 102, 123] ++ rep m [105, 102, 123])) = _
      rw [k1]
      rfl
    have e2 : toks (f' + 1) (123 :: rep m [105, 102, 123]) = [123] :: toks f' (rep m [105, 102, 123]) := by
      show (if (123 : Nat) = 32 ∨ (123 : Nat) = 10 then _ else _) = _
      rw [if_neg (by decide)]
      show List.take (tk (123 :: rep m [105, 102, 123])) (123 :: rep m [105, 102, 123]) :: toks f' (List.drop (tk (123 :: rep m [105, 102, 123])) (123 :: rep m [105, 102, 123])) = _
      rw [k2]
      rfl
    rw [e1, e2, ih]
    rfl
def preK : List (List Nat) := [[102, 110], [102], [40], [41], [123]]
theorem toks_cons (f c : Nat) (r : List Nat) : toks (f + 1) (c :: r) = if c = 32 ∨ c = 10 then toks f ((c :: r).drop (tk (c :: r))) else (c :: r).take (tk (c :: r)) :: toks f ((c :: r).drop (tk (c :: r))) := rfl
theorem toks_many (m : Nat) : toks (preT ++ rep m [105, 102, 123]).length (preT ++ rep m [105, 102, 123]) = preK ++ ifs m := by
  have hl : (preT ++ rep m [105, 102, 123]).length = (3 * m + 1) + 6 := by
    rw [List.length_append, rep_len]
    show 7 + m * 3 = _
    omega
  rw [hl]
  have ih := toks_ifs m (3 * m + 1) (by omega)
  generalize rep m [105, 102, 123] = s at *
  generalize 3 * m + 1 = f at *
  have t1 : tk (102 :: 110 :: 32 :: 102 :: 40 :: 41 :: 123 :: s) = 2 := by simp [tk, runL_cons, isLet]
  have t2 : tk (32 :: 102 :: 40 :: 41 :: 123 :: s) = 1 := by simp [tk, runL_cons, isLet]
  have t3 : tk (102 :: 40 :: 41 :: 123 :: s) = 1 := by simp [tk, runL_cons, isLet]
  have t4 : tk (40 :: 41 :: 123 :: s) = 1 := by simp [tk, runL_cons, isLet]
  have t5 : tk (41 :: 123 :: s) = 1 := by simp [tk, runL_cons, isLet]
  have t6 : tk (123 :: s) = 1 := by
    unfold tk
    rw [if_neg (by cases s <;> simp)]
    rfl
  show toks (f + 6) (102 :: 110 :: 32 :: 102 :: 40 :: 41 :: 123 :: s) = _
  simp only [toks_cons, t1, t2, t3, t4, t5, t6, List.take, List.drop, ih]
  rfl
theorem ifs_len : ∀ m, (ifs m).length = 2 * m
  | 0 => rfl
  | m + 1 => by simp only [ifs, List.length_cons, ifs_len m]; omega
theorem ifs_at : ∀ (m j : Nat), j < m → (ifs m)[2 * j]? = some [105, 102] ∧ (ifs m)[2 * j + 1]? = some [123]
  | 0, j, h => by omega
  | m + 1, 0, _ => ⟨rfl, rfl⟩
  | m + 1, j + 1, h => by
    have := ifs_at m j (by omega)
    exact ⟨this.1, this.2⟩
def CW : E := .cmp .ne (.meth (.var 1) 0 .nil) (.con (.str []))
def BW : Ss := .cons (.expr (.bm .append (.var 2) (.cons (.meth (.var 1) 7 .nil) .nil))) .nil
def TLr : Ss := (.cons (.cond (.cmp .gt (.fld (.var 1) 13) (.glo 5)) (.cons (.raise_ 1 (.cons (.con (.int 0)) (.cons (.con (.str [98, 108, 111, 99, 107, 115, 32, 116, 111, 111, 32, 100, 101, 101, 112])) .nil))) .nil) .nil) (.cons (.ret (.blt .tuple (.cons (.var 2) .nil))) .nil))
theorem TL_is : TL = .cons (.set 2 (.lst .nil)) (.cons (.whl CW BW) TLr) := rfl
theorem many_run {m : Nat} (hm : m ≤ 497) : ∃ h', parseK (preT ++ rep m [105, 102, 123]) = .exc 1 (excE (preK ++ ifs m)) h' := by
  have tl : (preK ++ ifs m).length = 5 + 2 * m := by rw [List.length_append, ifs_len]; rfl
  have ta : ∀ k, tokAt (preK ++ ifs m) (5 + k) = ((ifs m)[k]?).getD [] := fun k => by
    unfold tokAt
    rw [List.getElem?_append_right (by show 5 ≤ 5 + k; omega)]
    show ((ifs m)[5 + k - 5]?).getD [] = _
    rw [Nat.add_sub_cancel_left]
  unfold parseK
  rw [kSs_eq, callK_eq, toks_many m]
  have p0 : tokAt (preK ++ ifs m) 0 = [102, 110] := rfl
  have p1 : tokAt (preK ++ ifs m) 1 = [102] := rfl
  have p2 : tokAt (preK ++ ifs m) 2 = [40] := rfl
  have p3 : tokAt (preK ++ ifs m) 3 = [41] := rfl
  have p4 : tokAt (preK ++ ifs m) 4 = [123] := rfl
  generalize hT : preK ++ ifs m = T at *
  have R : Rd ⟨[(2, .lst []), (1, rdO 0 0), (0, .lst (sD T))], 3⟩ T 0 0 := ⟨rfl, rfl⟩
  obtain ⟨h', fe⟩ := func_end (n := 50) (m := m) R (by show 1 < 3; omega) p0 p1 p2 p3 p4 (fun j hj => by
    have := ifs_at m j hj
    rw [ta, show 5 + 2 * j + 1 = 5 + (2 * j + 1) by omega, ta, this.1, this.2]
    exact ⟨rfl, rfl⟩) (by omega) (by omega) (by omega)
  have cm := coming_ok (n := 56) R
  rw [p0] at cm
  have ck15 : ∀ a b, ckargs (pk.gm.np 15) [a, b] = true := fun _ _ => rfl
  have i5 : pk.gm.init 5 = some 15 := rfl
  have mkey : CC 57 15 [.ref 1, .ref 0] ⟨[(1, .ins 5 []), (0, .lst (sD T))], 2⟩ = .ok .non ⟨[(1, rdO 0 0), (0, .lst (sD T))], 2⟩ := by
    rw [call_at (r := r15) rfl rfl]
    simp [runFn, r15, b15, evSs, evS, evE, evAs, startD, sVar, setFop, hf11, hf12, hf13, fput, rdO, Hs.set, Hs.pt, Hs.get, Hs.lk, Z.R.bind, Z.R.thenS, RS.then]
  have g1 : (⟨[(2, .lst []), (1, rdO 0 0), (0, .lst (sD T))], 3⟩ : Hs).get 1 = some (.ins 5 [(11, .ref 0), (12, .int 0), (13, .int 0)]) := rfl
  have rc : recvL ⟨[(2, .lst []), (1, rdO 0 0), (0, .lst (sD T))], 3⟩ (.ref 2) = true := rfl
  have w : ∀ x, whileN (evE pk.gm (CC 57) CW).2 (evSs pk.gm (CC 57) BW) loopFuel [some x, some (.ref 1), some (.ref 2)] ⟨[(2, .lst []), (1, rdO 0 0), (0, .lst (sD T))], 3⟩ = .exc 1 (excE T) [some x, some (.ref 1), some (.ref 2)] h' := fun x => by
    have wu : ∀ (c : ST) (b : SX) (n : Nat) (σ : Ev) (h : Hs), whileN c b (n + 1) σ h = (c σ h).thenS σ fun t h1 => match t with
      | false => .nx σ h1
      | true => match b σ h1 with
        | .nx σ' h' => whileN c b n σ' h'
        | .ct σ' h' => whileN c b n σ' h'
        | .bk σ' h' => .nx σ' h'
        | r => r := fun _ _ _ _ _ => rfl
    rw [show loopFuel = 999999 + 1 from rfl, wu]
    have e1 : (evE pk.gm (CC 57) CW).2 [some x, some (.ref 1), some (.ref 2)] ⟨[(2, .lst []), (1, rdO 0 0), (0, .lst (sD T))], 3⟩ = .ok true ⟨[(2, .lst []), (1, rdO 0 0), (0, .lst (sD T))], 3⟩ := by
      simp [CW, evE, evAs, tCmpB, sMeth, sVar, g1, me0, ck16, cm, nev_str, Z.R.bind]
    have e2 : evSs pk.gm (CC 57) BW [some x, some (.ref 1), some (.ref 2)] ⟨[(2, .lst []), (1, rdO 0 0), (0, .lst (sD T))], 3⟩ = .exc 1 (excE T) [some x, some (.ref 1), some (.ref 2)] h' := by
      simp [BW, evSs, evS, evE, evAs, sBm, sMeth, sVar, g1, rc, me7, ck23, fe, Z.R.bind, Z.R.thenS, RS.then]
    rw [e1]
    simp only [Z.R.thenS, e2]
  refine ⟨h', ?_⟩
  have hn : (⟨[(0, .lst (sD T))], 1⟩ : Hs).new (.ins 5 []) = ⟨[(1, .ins 5 []), (0, .lst (sD T))], 2⟩ := rfl
  have hn2 : (⟨[(1, rdO 0 0), (0, .lst (sD T))], 2⟩ : Hs).new (.lst []) = ⟨[(2, .lst []), (1, rdO 0 0), (0, .lst (sD T))], 3⟩ := rfl
  simp [tail3, TL_is, fin3, evSs, evS, evE, evAs, sMake, sLst, sVar, i5, ck15, hn, hn2, mkey, w, Z.R.bind, Z.R.thenS, RS.then]
theorem many_ok {m : Nat} (hm : m ≤ 497) (h : Hs) : pureCall (CC 59) 13 [.str (preT ++ rep m [105, 102, 123])] h = .ok (.tup [.int (6 + 2 * m), .str tokE]) h := by
  have hlen : (preT ++ rep m [105, 102, 123]).length ≤ 1500 := by
    rw [List.length_append, rep_len]
    show 7 + m * 3 ≤ 1500
    omega
  have tl : (preK ++ ifs m).length = 5 + 2 * m := by rw [List.length_append, ifs_len]; rfl
  obtain ⟨h', e⟩ := many_run hm
  refine told_run (i := 6 + 2 * m) (m := tokE) ((parse_eq hlen).trans e) ?_ h
  unfold excE
  rw [tl]
  simp [eqT]
  omega
end K1
end
section
set_option Elab.async false
set_option linter.all false
set_option maxRecDepth 100000
set_option maxHeartbeats 0
namespace K1
open Z L2
/-! ### the table -/
abbrev RowT := List Nat × Int × Bool
def tokU : List Nat := [117, 110, 101, 120, 112, 101, 99, 116, 101, 100, 32, 116, 111, 107, 101, 110]
def rowsT : List RowT := [
  ([102, 110], 2, true),
  ([102, 110, 32, 102], 3, true),
  ([102, 110, 32, 102, 40, 97, 41, 32, 123, 32, 125], 5, false),
  ([102, 110, 32, 102, 40, 97, 58, 32, 120, 41, 32, 123, 32, 125], 6, false),
  ([102, 110, 32, 70, 40, 41, 32, 123, 32, 125], 2, false),
  ([102, 110, 32, 102, 40, 41, 32, 45, 62, 32, 123, 32, 125], 6, false),
  ([102, 110, 32, 102, 40, 41, 32, 45, 32, 111, 119, 110, 32, 123, 32, 125], 5, false),
  ([102, 110, 32, 102, 40, 41, 32, 123], 6, true),
  ([102, 110, 32, 102, 40, 41, 32, 123, 32, 120, 32, 125], 7, false),
  ([102, 110, 32, 102, 40, 41, 32, 123, 32, 108, 101, 116, 32, 61, 32, 110, 101, 119, 59, 32, 125], 7, false),
  ([102, 110, 32, 102, 40, 41, 32, 123, 32, 108, 101, 116, 32, 120, 32, 110, 101, 119, 59, 32, 125], 8, false),
  ([102, 110, 32, 102, 40, 41, 32, 123, 32, 108, 101, 116, 32, 120, 32, 61, 32, 59, 32, 125], 9, false),
  ([102, 110, 32, 102, 40, 41, 32, 123, 32, 108, 101, 116, 32, 120, 32, 61, 32, 110, 101, 119, 32, 125], 10, false),
  ([102, 110, 32, 102, 40, 41, 32, 123, 32, 114, 101, 97, 100, 59, 32, 125], 7, false),
  ([102, 110, 32, 102, 40, 41, 32, 123, 32, 114, 101, 97, 100, 32, 120, 32, 121, 59, 32, 125], 8, false),
  ([102, 110, 32, 102, 40, 41, 32, 123, 32, 105, 102, 32, 114, 101, 97, 100, 32, 120, 59, 32, 125], 7, false),
  ([102, 110, 32, 102, 40, 41, 32, 123, 32, 105, 102, 32, 123, 32, 125, 32, 101, 108, 115, 101, 32, 114, 101, 97, 100, 32, 120, 59, 32, 125], 10, false),
  ([102, 110, 32, 102, 40, 41, 32, 123, 32, 101, 108, 115, 101, 32, 123, 32, 125, 32, 125], 6, false),
  ([102, 110, 32, 102, 40, 41, 32, 123, 32, 108, 111, 111, 112, 59, 32, 125], 7, false),
  ([102, 110, 32, 102, 40, 41, 32, 123, 32, 98, 114, 101, 97, 107, 32, 120, 59, 32, 125], 7, false),
  ([102, 110, 32, 102, 40, 41, 32, 123, 32, 114, 101, 116, 117, 114, 110, 32, 120, 32, 121, 59, 32, 125], 8, false),
  ([102, 110, 32, 102, 40, 41, 32, 123, 32, 102, 40, 59, 32, 125], 8, false),
  ([102, 110, 32, 102, 40, 41, 32, 123, 32, 102, 40, 120, 44, 41, 59, 32, 125], 10, false),
  ([102, 110, 32, 102, 40, 41, 32, 123, 32, 102, 40, 110, 101, 119, 41, 59, 32, 125], 8, false),
  ([102, 110, 32, 102, 40, 41, 32, 123, 32, 108, 101, 116, 32, 120, 32, 61, 32, 114, 101, 102, 59, 32, 125], 10, false),
  ([102, 110, 32, 102, 40, 41, 32, 123, 32, 108, 101, 116, 32, 120, 32, 61, 32, 114, 101, 102, 32, 110, 101, 119, 59, 32, 125], 10, false),
  ([102, 110, 32, 102, 40, 41, 32, 123, 32, 114, 101, 102, 32, 120, 59, 32, 125], 6, false),
  ([102, 110, 32, 102, 40, 41, 32, 123, 32, 125, 32, 125], 7, false),
  ([120], 1, false),
  ([102, 110, 32, 108, 101, 116, 40, 41, 32, 123, 32, 125], 2, false),
  ([102, 110, 32, 97, 98, 99, 100, 101, 102, 103, 104, 105, 40, 41, 32, 123, 32, 125], 2, false),
  ([102, 110, 32, 102, 40, 41, 32, 123, 32, 114, 101, 97, 100, 32, 120, 49, 59, 32, 125], 8, false),
  ([102, 110, 32, 102, 40, 97, 58, 32, 111, 119, 110, 32, 98, 58, 32, 111, 119, 110, 41, 32, 123, 32, 125], 7, false),
  ([102, 110, 32, 102, 40, 97, 58, 32, 111, 119, 110, 44, 41, 32, 123, 32, 125], 8, false),
  ([102, 110, 32, 102, 40, 41, 32, 123, 32, 120, 32, 61, 32, 110, 101, 119, 32, 125], 9, false),
  ([102, 110, 32, 102, 40, 41, 32, 123, 32, 120, 40, 121, 41, 32, 125], 10, false),
  ([102, 110, 32, 102, 40, 41, 32, 123, 9, 125], 6, false),
  ([102, 110, 32, 102, 40, 41, 32, 45, 32, 62, 32, 111, 119, 110, 32, 123, 32, 125], 5, false),
  ([102, 110, 32, 102, 40, 41, 32, 123, 32, 108, 101, 116, 32, 97, 98, 99, 100, 101, 102, 103, 104, 105, 32, 61, 32, 110, 101, 119, 59, 32, 125], 7, false),
  ([102, 110, 32, 102, 40, 41, 32, 123, 32, 114, 101, 97, 100, 9, 120, 59, 32, 125], 7, false),
  ([102, 110, 32, 102, 40, 41, 32, 123, 32, 120, 32, 61, 61, 32, 110, 101, 119, 59, 32, 125], 8, false),
  ([102, 110, 32, 102, 40, 41, 32, 123, 32, 114, 101, 97, 100, 32, 120, 59, 32, 62, 32, 125], 9, false),
  ([102, 110, 32, 102, 40, 41, 32, 123, 32, 108, 111, 111, 112, 32, 123, 32, 125, 32], 9, true),
  ([102, 110, 32, 102, 40, 41, 32, 123, 32, 120, 32, 61, 32, 110, 101, 119], 9, true)]
def headsT : List (List Nat × Int) := [
  ([], 0),
  ([102, 110, 32, 97, 40, 41, 32, 123, 32, 125, 10], 6),
  ([102, 110, 32, 98, 40, 112, 58, 32, 111, 119, 110, 44, 32, 113, 58, 32, 109, 117, 116, 41, 32, 45, 62, 32, 111, 119, 110, 32, 123, 32, 114, 101, 116, 117, 114, 110, 32, 112, 59, 32, 125, 32, 102, 110, 32, 99, 40, 41, 32, 123, 32, 105, 102, 32, 123, 32, 125, 32, 101, 108, 115, 101, 32, 123, 32, 108, 111, 111, 112, 32, 123, 32, 98, 114, 101, 97, 107, 59, 32, 125, 32, 125, 32, 125], 35)]
def mEnd (b : Bool) : List Nat := if b then tokE else tokU
noncomputable def caseB (hd : List Nat × Int) (r : RowT) : Bool := decide ((hd.1 ++ r.1).length ≤ 1500) && chkNo (hd.1 ++ r.1) (hd.2 + r.2.1) (mEnd r.2.2)
def rowC (i : Nat) : List RowT := (rowsT.drop (4 * i)).take 4
theorem rows_cut : rowsT = (rowC 0 ++ (rowC 1 ++ (rowC 2 ++ (rowC 3 ++ (rowC 4 ++ (rowC 5 ++ (rowC 6 ++ (rowC 7 ++ (rowC 8 ++ (rowC 9 ++ rowC 10)))))))))) := rfl
theorem tab0_0 : ((rowC 0).all fun r => caseB (headsT.getD 0 ([], 0)) r) = true := by decide +kernel
theorem tab0_1 : ((rowC 1).all fun r => caseB (headsT.getD 0 ([], 0)) r) = true := by decide +kernel
theorem tab0_2 : ((rowC 2).all fun r => caseB (headsT.getD 0 ([], 0)) r) = true := by decide +kernel
theorem tab0_3 : ((rowC 3).all fun r => caseB (headsT.getD 0 ([], 0)) r) = true := by decide +kernel
theorem tab0_4 : ((rowC 4).all fun r => caseB (headsT.getD 0 ([], 0)) r) = true := by decide +kernel
theorem tab0_5 : ((rowC 5).all fun r => caseB (headsT.getD 0 ([], 0)) r) = true := by decide +kernel
theorem tab0_6 : ((rowC 6).all fun r => caseB (headsT.getD 0 ([], 0)) r) = true := by decide +kernel
theorem tab0_7 : ((rowC 7).all fun r => caseB (headsT.getD 0 ([], 0)) r) = true := by decide +kernel
theorem tab0_8 : ((rowC 8).all fun r => caseB (headsT.getD 0 ([], 0)) r) = true := by decide +kernel
theorem tab0_9 : ((rowC 9).all fun r => caseB (headsT.getD 0 ([], 0)) r) = true := by decide +kernel
theorem tab0_10 : ((rowC 10).all fun r => caseB (headsT.getD 0 ([], 0)) r) = true := by decide +kernel
theorem tab0 : (rowsT.all fun r => caseB (headsT.getD 0 ([], 0)) r) = true := by
  rw [rows_cut]
  simp only [List.all_append, Bool.and_eq_true]
  exact ⟨tab0_0, tab0_1, tab0_2, tab0_3, tab0_4, tab0_5, tab0_6, tab0_7, tab0_8, tab0_9, tab0_10⟩
theorem tab1_0 : ((rowC 0).all fun r => caseB (headsT.getD 1 ([], 0)) r) = true := by decide +kernel
theorem tab1_1 : ((rowC 1).all fun r => caseB (headsT.getD 1 ([], 0)) r) = true := by decide +kernel
theorem tab1_2 : ((rowC 2).all fun r => caseB (headsT.getD 1 ([], 0)) r) = true := by decide +kernel
theorem tab1_3 : ((rowC 3).all fun r => caseB (headsT.getD 1 ([], 0)) r) = true := by decide +kernel
theorem tab1_4 : ((rowC 4).all fun r => caseB (headsT.getD 1 ([], 0)) r) = true := by decide +kernel
theorem tab1_5 : ((rowC 5).all fun r => caseB (headsT.getD 1 ([], 0)) r) = true := by decide +kernel
theorem tab1_6 : ((rowC 6).all fun r => caseB (headsT.getD 1 ([], 0)) r) = true := by decide +kernel
theorem tab1_7 : ((rowC 7).all fun r => caseB (headsT.getD 1 ([], 0)) r) = true := by decide +kernel
theorem tab1_8 : ((rowC 8).all fun r => caseB (headsT.getD 1 ([], 0)) r) = true := by decide +kernel
theorem tab1_9 : ((rowC 9).all fun r => caseB (headsT.getD 1 ([], 0)) r) = true := by decide +kernel
theorem tab1_10 : ((rowC 10).all fun r => caseB (headsT.getD 1 ([], 0)) r) = true := by decide +kernel
theorem tab1 : (rowsT.all fun r => caseB (headsT.getD 1 ([], 0)) r) = true := by
  rw [rows_cut]
  simp only [List.all_append, Bool.and_eq_true]
  exact ⟨tab1_0, tab1_1, tab1_2, tab1_3, tab1_4, tab1_5, tab1_6, tab1_7, tab1_8, tab1_9, tab1_10⟩
theorem tab2_0 : ((rowC 0).all fun r => caseB (headsT.getD 2 ([], 0)) r) = true := by decide +kernel
theorem tab2_1 : ((rowC 1).all fun r => caseB (headsT.getD 2 ([], 0)) r) = true := by decide +kernel
theorem tab2_2 : ((rowC 2).all fun r => caseB (headsT.getD 2 ([], 0)) r) = true := by decide +kernel
theorem tab2_3 : ((rowC 3).all fun r => caseB (headsT.getD 2 ([], 0)) r) = true := by decide +kernel
theorem tab2_4 : ((rowC 4).all fun r => caseB (headsT.getD 2 ([], 0)) r) = true := by decide +kernel
theorem tab2_5 : ((rowC 5).all fun r => caseB (headsT.getD 2 ([], 0)) r) = true := by decide +kernel
theorem tab2_6 : ((rowC 6).all fun r => caseB (headsT.getD 2 ([], 0)) r) = true := by decide +kernel
theorem tab2_7 : ((rowC 7).all fun r => caseB (headsT.getD 2 ([], 0)) r) = true := by decide +kernel
theorem tab2_8 : ((rowC 8).all fun r => caseB (headsT.getD 2 ([], 0)) r) = true := by decide +kernel
theorem tab2_9 : ((rowC 9).all fun r => caseB (headsT.getD 2 ([], 0)) r) = true := by decide +kernel
theorem tab2_10 : ((rowC 10).all fun r => caseB (headsT.getD 2 ([], 0)) r) = true := by decide +kernel
theorem tab2 : (rowsT.all fun r => caseB (headsT.getD 2 ([], 0)) r) = true := by
  rw [rows_cut]
  simp only [List.all_append, Bool.and_eq_true]
  exact ⟨tab2_0, tab2_1, tab2_2, tab2_3, tab2_4, tab2_5, tab2_6, tab2_7, tab2_8, tab2_9, tab2_10⟩
theorem hd_fine : (headsT.all fun q => decide (q.1.length ≤ 1500) && chkOk q.1) = true := by decide +kernel
/-! ### the rows as the law makes them -/
def rowsMatch (hr : Hs) : List D → List RowT → Bool
  | [], [] => true
  | d :: ds, r :: rs => (match d with
    | .ref q => match hr.get q with
      | some (.lst [.str t, .int i, .bl b]) => decide (r.1 = t) && decide (r.2.1 = i) && (r.2.2 == b)
      | _ => false
    | _ => false) && rowsMatch hr ds rs
  | _, _ => false
theorem rows_at {hr : Hs} : ∀ {ds : List D} {rs : List RowT}, rowsMatch hr ds rs = true → ds.length = rs.length ∧ ∀ (j : Nat) (r : RowT), rs[j]? = some r → ∃ q, ds[j]? = some (.ref q) ∧ hr.get q = some (.lst [.str r.1, .int r.2.1, .bl r.2.2])
  | [], [], _ => ⟨rfl, fun j r e => by simp at e⟩
  | [], _ :: _, h => by simp [rowsMatch] at h
  | _ :: _, [], h => by simp [rowsMatch] at h
  | d :: ds, r0 :: rs, h => by
    simp only [rowsMatch, Bool.and_eq_true] at h
    obtain ⟨i1, i2⟩ := rows_at h.2
    refine ⟨by simp [i1], fun j r e => ?_⟩
    cases j with
    | zero =>
      have h1 := h.1
      cases e
      split at h1
      · rename_i q
        split at h1
        · rename_i t i b g
          simp only [Bool.and_eq_true, decide_eq_true_eq, beq_iff_eq] at h1
          refine ⟨q, rfl, ?_⟩
          rw [h1.1.1, h1.1.2, h1.2]
          exact g
        · cases h1
      · cases h1
    | succ j => exact i2 j r e
noncomputable def rowsChk : Bool := match callK pk.gm pk.fT 59 12 [] Hs.empty with
  | .ok (.ref r) hr => (match hr.get r with
    | some (.lst ds) => rowsMatch hr ds rowsT
    | _ => false)
  | _ => false
theorem rows_chk : rowsChk = true := by decide +kernel
theorem rows_ok : ∃ r hr ds, CC 59 12 [] Hs.empty = .ok (.ref r) hr ∧ hr.get r = some (.lst ds) ∧ rowsMatch hr ds rowsT = true := by
  have h := rows_chk
  unfold rowsChk at h
  rw [callK_eq] at h
  split at h
  · rename_i r hr e
    split at h
    · rename_i ds g
      exact ⟨r, hr, ds, e, g, h⟩
    · cases h
  · cases h
end K1
end
section
set_option Elab.async false
set_option linter.all false
set_option maxRecDepth 100000
set_option maxHeartbeats 0
namespace K1
open Z L2
/-! ### deep blocks, blanks -/
def deepM : List Nat := [98, 108, 111, 99, 107, 115, 32, 116, 111, 111, 32, 100, 101, 101, 112]
def fnB : List Nat := [102, 110, 32, 102, 40, 41, 32, 123]
def ifB : List Nat := [105, 102, 32, 123]
def tokUU : List Nat := [117, 110, 101, 120, 112, 101, 99, 116, 101, 100, 32, 116, 111, 107, 101, 110]
theorem deep60 : chkOk (fnB ++ rep 59 ifB ++ rep 60 [125]) = true := by decide +kernel
theorem deep61 : chkNo (fnB ++ rep 60 ifB ++ rep 61 [125]) 0 deepM = true := by decide +kernel
theorem deep62 : chkNo (fnB ++ rep 61 ifB ++ rep 62 [125]) 0 deepM = true := by decide +kernel
theorem semi : chkNo (fnB ++ rep 70 ifB ++ [59]) 146 tokUU = true := by decide +kernel
noncomputable def blankB (t : List Nat) : Bool := match parseK t with
  | .ok (.tup []) h1 => (match callK pk.gm pk.fT 58 0 [.tup []] h1 with
    | .ok .non _ => true
    | _ => false)
  | _ => false
theorem blank_chk : blankB (rep 1500 [32]) = true := by decide +kernel
theorem blank_any {t : List Nat} (hl : t.length ≤ 1500) (c : blankB t = true) (h : Hs) : pureCall (CC 59) 4 [.str t] h = .ok (.tup []) h := by
  unfold blankB at c
  rw [← parse_eq hl, callK_eq] at c
  split at c
  · rename_i h1 e1
    split at c
    · rename_i h2 e2
      have k3 : ∀ a, ckargs (pk.gm.np 3) [a] = true := fun _ => rfl
      have k0 : ∀ a, ckargs (pk.gm.np 0) [a] = true := fun _ => rfl
      have isn : cmpv h2 .isnot .non .non = some false := rfl
      have key : CC 59 4 [.str t] Hs.empty = .ok (.tup []) h2 := by
        rw [call_at (r := r4) rfl rfl]
        simp [runFn, r4, b4, evSs, evS, evE, evAs, startD, sVar, sCall, k3, k0, e1, e2, tCmpB, isn, Z.R.bind, Z.R.thenS, RS.then]
      unfold pureCall
      simp [cleans, clean, key]
    · cases c
  · cases c
theorem rep_space (n : Nat) : (rep n [32]).length = n := by rw [rep_len]; exact Nat.mul_one n
theorem blank_ok (h : Hs) : pureCall (CC 59) 4 [.str (rep 1500 [32])] h = .ok (.tup []) h :=
  blank_any (Nat.le_of_eq (rep_space 1500)) blank_chk h
end K1
end
section
set_option Elab.async false
set_option linter.all false
set_option maxRecDepth 100000
set_option maxHeartbeats 1000000
namespace K1
open Z L2
/-! ### the law's loop -/
structure LI (h : Hs) (l : List Int) (k : Nat) : Prop where
  box : Box h 2 1 l k
  o : h.get 6 = some (.lst [.ref 3, .ref 4, .ref 5])
  hd : ∀ (d : Nat) (q : List Nat × Int), headsT[d]? = some q → h.get (3 + d) = some (.lst [.str q.1, .int q.2])
  n : 7 ≤ h.n
theorem deq_pair (i : Int) (s : List Nat) (h : Hs) (hs : s.all (fun c => decide (c < 1114112)) = true) : deq h (.tup [.int i, .str s]) (.tup [.int i, .str s]) = some true := by
  have hk : PySem.PyData.strOk { cps := s.toArray } = true := by
    simpa [PySem.PyData.strOk] using hs
  simp [deq, pdh, pd, pds]
  simp [PySem.SeqAt.shaped, PySem.PyData.canLay0, PySem.PyData.canLayAll0, PySem.PyData.depth, PySem.PyData.depthAll, PySem.PyData.eqv, PySem.PyData.eqvAll, hk]
theorem eqv_pair (i : Int) (s : List Nat) (h : Hs) (hs : s.all (fun c => decide (c < 1114112)) = true) : cmpv h .ne (.tup [.int i, .str s]) (.tup [.int i, .str s]) = some false := by
  simp only [cmpv, deq_pair i s h hs, Option.map_some, Bool.not_true]
theorem eqq_pair (i : Int) (s : List Nat) (h : Hs) (hs : s.all (fun c => decide (c < 1114112)) = true) : cmpop .eq (.tup [.int i, .str s]) (.tup [.int i, .str s]) h = .ok (.bl true) h := by
  simp only [cmpop, cmpv, deq_pair i s h hs]
theorem eqv_nil (h : Hs) : cmpv h .ne (.tup []) (.tup []) = some false := by
  simp [cmpv, deq, pdh, pd, pds]
  simp [PySem.SeqAt.shaped, PySem.PyData.canLay0, PySem.PyData.canLayAll0, PySem.PyData.depth, PySem.PyData.depthAll, PySem.PyData.eqv, PySem.PyData.eqvAll]
theorem mEnd_fine (b : Bool) : (mEnd b).all (fun c => decide (c < 1114112)) = true := by cases b <;> decide
theorem LI.keep {h h' : Hs} {l : List Int} {k : Nat} (L : LI h l k) (hk : ∀ x, x < 7 → h'.get x = h.get x) (hn : h.n ≤ h'.n) : LI h' l k := by
  have headLt : ∀ (d : Nat) (q : List Nat × Int), headsT[d]? = some q → d < 3 := fun d q e => (List.getElem?_eq_some_iff.mp e).1
  exact ⟨⟨(hk 2 (by omega)).trans L.box.box, (hk 1 (by omega)).trans L.box.dig, L.box.ne⟩, (hk 6 (by omega)).trans L.o, fun d q e => (hk (3 + d) (by have := headLt d q e; omega)).trans (L.hd d q e), by have := L.n; omega⟩
theorem LI.drawn {h : Hs} {l : List Int} {k : Nat} (L : LI h l k) : LI (h.set 2 (.lst [.ref 1, .int (k + 1)])) l (k + 1) := by
  have headLt : ∀ (d : Nat) (q : List Nat × Int), headsT[d]? = some q → d < 3 := fun d q e => (List.getElem?_eq_some_iff.mp e).1
  exact ⟨L.box.next, (Hs.get_set_ne _ _ (by omega)).trans L.o, fun d q e => (Hs.get_set_ne _ _ (by omega)).trans (L.hd d q e), L.n⟩
def LB : Ss := (.cons (.unp [9, 7] (.idx (.var 2) (.call 11 (.cons (.var 1) (.cons (.con (.int 3)) .nil))))) (.cons (.set 8 (.pcall 12 .nil)) (.cons (.unp [5, 10, 11] (.idx (.var 8) (.bin .mod (.blt .int (.cons (.call 11 (.cons (.var 1) (.cons (.con (.int 900)) .nil))) .nil)) (.blt .len (.cons (.var 8) .nil))))) (.cons (.set 6 (.tup (.cons (.bin .add (.var 7) (.var 10)) (.cons (.idx (.lst (.cons (.con (.str tokU)) (.cons (.con (.str tokE)) .nil))) (.blt .int (.cons (.var 11) .nil))) .nil)))) (.cons (.cond (.or (.cmp .ne (.pcall 13 (.cons (.bin .add (.var 9) (.var 5)) .nil)) (.var 6)) (.cmp .ne (.pcall 13 (.cons (.var 9) .nil)) (.tup .nil))) (.cons (.ret (.con (.bl false))) .nil) .nil) .nil)))))
theorem ck11 (a b : D) : ckargs (pk.gm.np 11) [a, b] = true := rfl
theorem ck12 : ckargs (pk.gm.np 12) [] = true := rfl
theorem ck13 (a : D) : ckargs (pk.gm.np 13) [a] = true := rfl
theorem tab_at {d : Nat} {q : List Nat × Int} {r : RowT} {j : Nat} (e1 : headsT[d]? = some q) (e2 : rowsT[j]? = some r) : (q.1 ++ r.1).length ≤ 1500 ∧ chkNo (q.1 ++ r.1) (q.2 + r.2.1) (mEnd r.2.2) = true := by
  have all : (rowsT.all fun r => caseB q r) = true := by
    have hd : d < 3 := (List.getElem?_eq_some_iff.mp e1).1
    have : d = 0 ∨ d = 1 ∨ d = 2 := by omega
    rcases this with rfl | rfl | rfl
    · cases e1; exact tab0
    · cases e1; exact tab1
    · cases e1; exact tab2
  have := List.all_eq_true.mp all r (List.mem_of_getElem? e2)
  unfold caseB at this
  simp only [Bool.and_eq_true, decide_eq_true_eq] at this
  exact this
theorem head_at {d : Nat} {q : List Nat × Int} (e1 : headsT[d]? = some q) : q.1.length ≤ 1500 ∧ chkOk q.1 = true := by
  have := List.all_eq_true.mp hd_fine q (List.mem_of_getElem? e1)
  simp only [Bool.and_eq_true, decide_eq_true_eq] at this
  exact this
abbrev lawE (x3 x4 x5 x6 x7 x8 x9 x10 x11 : Option D) : Ev := [some (.ref 0), some (.ref 2), some (.ref 6), x3, x4, x5, x6, x7, x8, x9, x10, x11]
theorem turn_ok {h : Hs} {l : List Int} {k : Nat} (L : LI h l k) (x3 x4 x5 x6 x7 x8 x9 x10 x11 : Option D) :
    ∃ y5 y6 y7 y8 y9 y10 y11 h' k', evSs pk.gm (CC 59) LB (lawE x3 x4 x5 x6 x7 x8 x9 x10 x11) h = .nx (lawE x3 x4 y5 y6 y7 y8 y9 y10 y11) h' ∧ LI h' l k' := by
  -- the head
  have d1 := draw_ok (n := 58) L.box (m := 3) (by omega)
  obtain ⟨b1, b2⟩ := drawn_lt (l := l) (k := k) (m := 3) (by omega)
  obtain ⟨d, hd⟩ : ∃ d : Nat, drawn l k 3 = d := ⟨(drawn l k 3).toNat, by omega⟩
  rw [hd] at d1 b2
  have L1 := L.drawn
  generalize h.set 2 (.lst [.ref 1, .int (k + 1)]) = h1 at *
  obtain ⟨q, hq⟩ : ∃ q, headsT[d]? = some q := ⟨_, List.getElem?_eq_getElem (show d < headsT.length by show d < 3; omega)⟩
  have ix1 : idxop (.ref 6) (.int d) h1 = .ok (.ref (3 + d)) h1 := idx_lst (k := d) L1.o (by
    have : d = 0 ∨ d = 1 ∨ d = 2 := by omega
    rcases this with rfl | rfl | rfl <;> rfl)
  have sq1 := seq_lst (L1.hd d q hq)
  -- the rows
  obtain ⟨r, hr, ds, er, gr, mr⟩ := rows_ok
  obtain ⟨lr, ar⟩ := rows_at mr
  have pr : pureCall (CC 59) 12 [] h1 = .ok (.ref (r + h1.n)) (h1.app hr) := by
    unfold pureCall
    simp [cleans, clean, er, shD]
  have g2 : ∀ x, x < h1.n → (h1.app hr).get x = h1.get x := fun x hx => by rw [get_app, if_neg (by omega)]
  have g3 : ∀ x o, hr.get x = some o → (h1.app hr).get (x + h1.n) = some (shO h1.n o) := fun x o e => by
    rw [get_app, if_pos (by omega), Nat.add_sub_cancel, e]
  have L2 : LI (h1.app hr) l (k + 1) := L1.keep (fun x hx => g2 x (by have := L1.n; omega)) (by show h1.n ≤ h1.n + hr.n; omega)
  have grr := g3 r _ gr
  -- the row
  have d2 := draw_ok (n := 58) L2.box (m := 900) (by omega)
  have L3 := L2.drawn
  have keep3 : ∀ x, x ≠ 2 → ((h1.app hr).set 2 (.lst [.ref 1, .int (k + 1 + 1 : Nat)])).get x = (h1.app hr).get x := fun x hx => Hs.get_set_ne _ _ hx
  have cst : (((k + 1 : Nat) : Int) + 1) = ((k + 1 + 1 : Nat) : Int) := rfl
  rw [cst] at d2 L3
  generalize hh3 : (h1.app hr).set 2 (.lst [.ref 1, .int (k + 1 + 1 : Nat)]) = h3 at *
  have n1 := L1.n
  have grr3 : h3.get (r + h1.n) = some (.lst (shDs h1.n ds)) := (keep3 _ (by omega)).trans grr
  have shl : ∀ (k : Nat) (l : List D), (shDs k l).length = l.length := fun k l => by
    induction l with
    | nil => rfl
    | cons a l ih => simp [shDs, ih]
  have shat : ∀ (k : Nat) (l : List D) (j : Nat) (x : D), l[j]? = some x → (shDs k l)[j]? = some (shD k x) := fun k l => by
    induction l with
    | nil => intro j x e; simp at e
    | cons a l ih =>
      intro j x e
      cases j with
      | zero => cases e; rfl
      | succ j => exact ih j x e
  have ln : (shDs h1.n ds).length = 44 := by rw [shl, lr]; rfl
  have lnn := len_lst grr3
  rw [ln] at lnn
  obtain ⟨j, hj, hj2⟩ : ∃ j : Nat, drawn l (k + 1) 900 % 44 = j ∧ j < 44 := ⟨(drawn l (k + 1) 900 % 44).toNat, by omega, by omega⟩
  obtain ⟨row, hrow⟩ : ∃ row, rowsT[j]? = some row := ⟨_, List.getElem?_eq_getElem (show j < rowsT.length by show j < 44; omega)⟩
  obtain ⟨q2, e1, e2⟩ := ar j row hrow
  have ix2 : idxop (.ref (r + h1.n)) (.int j) h3 = .ok (.ref (q2 + h1.n)) h3 := idx_lst (k := j) grr3 (shat h1.n ds j _ e1)
  have gq3 : h3.get (q2 + h1.n) = some (.lst [.str row.1, .int row.2.1, .bl row.2.2]) := (keep3 _ (by omega)).trans (g3 q2 _ e2)
  have sq2 := seq_lst gq3
  -- what is due
  have g4 : (h3.new (.lst [.str tokU, .str tokE])).get h3.n = some (.lst [.str tokU, .str tokE]) := Hs.get_new_same _ _
  have ix3 : idxop (.ref h3.n) (.int (if row.2.2 = true then 1 else 0)) (h3.new (.lst [.str tokU, .str tokE])) = .ok (.str (mEnd row.2.2)) (h3.new (.lst [.str tokU, .str tokE])) := by
    cases row.2.2 with
    | true => exact idx_lst (k := 1) g4 rfl
    | false => exact idx_lst (k := 0) g4 rfl
  have n3 : h3.n = h1.n + hr.n := by rw [← hh3]; rfl
  have L4 : LI (h3.new (.lst [.str tokU, .str tokE])) l (k + 1 + 1) := L3.keep (fun x hx => Hs.get_new_ne _ _ (by omega)) (by show h3.n ≤ h3.n + 1; omega)
  generalize hh4 : h3.new (.lst [.str tokU, .str tokE]) = h4 at *
  obtain ⟨ta, tb⟩ := tab_at hq hrow
  have tn := told_no ta tb h4
  obtain ⟨tc, td⟩ := head_at hq
  have ty := told_yes tc td h4
  have big1 : q.1.length + row.1.length ≤ big := by rw [← List.length_append]; exact Nat.le_trans ta (by decide)
  have ad := add_str q.1 row.1 h4 big1
  have md : ∀ i : Int, binop .mod (.int i) (.int 44) h3 = .ok (.int (i % 44)) h3 := fun i => mod_int i 44 h3 (by omega)
  refine ⟨some (.str row.1), some (.tup [.int (q.2 + row.2.1), .str (mEnd row.2.2)]), some (.int q.2), some (.ref (r + h1.n)), some (.str q.1), some (.int row.2.1), some (.bl row.2.2), h4, k + 1 + 1, ?_, L4⟩
  simp [LB, evSs, evS, evE, evAs, sVar, sCall, sPure, sIdx, sBin, sBlt, sTup, sLst, big, ck11, ck12, ck13, d1, ix1, tgset, sq1, tgl, pr, d2, int_int, int_bl, lnn, md, hj, ix2, sq2, add_int, hh4, ix3, tOrB, tCmpB, ad, tn, ty, eqv_pair _ _ _ (mEnd_fine _), eqv_nil, Z.R.bind, Z.R.thenS, RS.then]
end K1
end
section
set_option Elab.async false
set_option linter.all false
set_option maxRecDepth 100000
set_option maxHeartbeats 1000000
namespace K1
open Z L2
/-! ### the law's end -/
def fnF : List Nat := [102, 110, 32, 70, 40, 41, 32, 123, 32, 125]
def A0 : S := (.set 1 (.lst (.cons (.call 10 (.cons (.var 0) (.cons (.con (.int 0)) (.cons (.con (.int 20)) .nil)))) (.cons (.con (.int 0)) .nil))))
def A1 : S := (.set 2 (.lst (.cons (.lst (.cons (.con (.str [])) (.cons (.con (.int 0)) .nil))) (.cons (.lst (.cons (.con (.str [102, 110, 32, 97, 40, 41, 32, 123, 32, 125, 10])) (.cons (.con (.int 6)) .nil))) (.cons (.lst (.cons (.con (.str [102, 110, 32, 98, 40, 112, 58, 32, 111, 119, 110, 44, 32, 113, 58, 32, 109, 117, 116, 41, 32, 45, 62, 32, 111, 119, 110, 32, 123, 32, 114, 101, 116, 117, 114, 110, 32, 112, 59, 32, 125, 32, 102, 110, 32, 99, 40, 41, 32, 123, 32, 105, 102, 32, 123, 32, 125, 32, 101, 108, 115, 101, 32, 123, 32, 108, 111, 111, 112, 32, 123, 32, 98, 114, 101, 97, 107, 59, 32, 125, 32, 125, 32, 125])) (.cons (.con (.int 35)) .nil))) .nil)))))
def A2 : S := .each (.nm 3) (.rng1 (.con (.int 6))) LB
def A3 : S := (.set 4 (.bin .add (.con (.int 60)) (.call 11 (.cons (.var 1) (.cons (.con (.int 3)) .nil)))))
def A4 : S := (.set 5 (.bin .add (.bin .add (.con (.str fnB)) (.bin .mul (.con (.str ifB)) (.bin .sub (.var 4) (.con (.int 1))))) (.bin .mul (.con (.str [125])) (.var 4))))
def A5 : S := (.set 6 (.tup .nil))
def A6 : S := (.cond (.cmp .gt (.var 4) (.con (.int 60))) (.cons (.set 6 (.tup (.cons (.con (.int 0)) (.cons (.con (.str deepM)) .nil)))) .nil) .nil)
def A7 : S := (.cond (.or (.cmp .ne (.pcall 13 (.cons (.var 5) .nil)) (.var 6)) (.or (.cmp .ne (.pcall 13 (.cons (.bin .mul (.con (.str [32])) (.con (.int 1501))) .nil)) (.tup (.cons (.con (.int 0)) (.cons (.con (.str longT)) .nil)))) (.cmp .ne (.pcall 4 (.cons (.bin .mul (.con (.str [32])) (.con (.int 1500))) .nil)) (.tup .nil)))) (.cons (.ret (.con (.bl false))) .nil) .nil)
def A8 : S := (.cond (.or (.cmp .ne (.pcall 13 (.cons (.bin .add (.con (.str fnF)) (.bin .mul (.con (.str [32])) (.con (.int 1500)))) .nil)) (.tup (.cons (.con (.int 0)) (.cons (.con (.str longT)) .nil)))) (.cmp .ne (.pcall 13 (.cons (.bin .add (.bin .add (.con (.str fnB)) (.bin .mul (.con (.str ifB)) (.con (.int 70)))) (.con (.str [59]))) .nil)) (.tup (.cons (.bin .add (.con (.int 6)) (.bin .mul (.con (.int 2)) (.con (.int 70)))) (.cons (.con (.str tokUU)) .nil))))) (.cons (.ret (.con (.bl false))) .nil) .nil)
def A9 : S := (.set 7 (.bin .add (.con (.int 1)) (.call 11 (.cons (.var 1) (.cons (.con (.int 497)) .nil)))))
def A10 : S := (.ret (.cmp .eq (.pcall 13 (.cons (.bin .add (.con (.str preT)) (.bin .mul (.con (.str [105, 102, 123])) (.var 7))) .nil)) (.tup (.cons (.bin .add (.con (.int 6)) (.bin .mul (.con (.int 2)) (.var 7))) (.cons (.con (.str tokE)) .nil)))))
def AR : Ss := (.cons A3 (.cons A4 (.cons A5 (.cons A6 (.cons A7 (.cons A8 (.cons A9 (.cons A10 .nil))))))))
theorem b14_is : b14 = .cons A0 (.cons A1 (.cons A2 AR)) := rfl
theorem mul_str (a : List Nat) (n : Nat) (h : Hs) (hb : a.length * n ≤ big) (hn : n ≤ 1000000000) : binop .mul (.str a) (.int n) h = .ok (.str (rep n a)) h := by
  have hc : a.length * (n : Int).toNat ≤ big ∧ (-1000000000 : Int) ≤ n ∧ (n : Int) ≤ 1000000000 := ⟨hb, by omega, by omega⟩
  exact if_pos hc
def dueD (d : Nat) : D := if d = 0 then .tup [] else .tup [.int 0, .str deepM]
def deepT (d : Nat) : List Nat := fnB ++ rep (59 + d) ifB ++ rep (60 + d) [125]
theorem deepT_len {d : Nat} (hd : d < 3) : (deepT d).length ≤ 1500 := by
  unfold deepT
  rw [List.length_append, List.length_append, rep_len, rep_len]
  show 8 + (59 + d) * 4 + (60 + d) * 1 ≤ 1500
  omega
theorem deep_ok {d : Nat} (hd : d < 3) (h : Hs) : pureCall (CC 59) 13 [.str (deepT d)] h = .ok (dueD d) h := by
  have hl := deepT_len hd
  have : d = 0 ∨ d = 1 ∨ d = 2 := by omega
  rcases this with rfl | rfl | rfl
  · exact told_yes hl deep60 h
  · exact told_no hl deep61 h
  · exact told_no hl deep62 h
theorem due_ne (d : Nat) (h : Hs) : cmpv h .ne (dueD d) (dueD d) = some false := by
  unfold dueD
  split
  · exact eqv_nil h
  · exact eqv_pair 0 deepM h (by decide)
theorem ck4 (a : D) : ckargs (pk.gm.np 4) [a] = true := rfl
theorem long_ne (h : Hs) : cmpv h .ne (.tup [.int 0, .str longT]) (.tup [.int 0, .str longT]) = some false := eqv_pair 0 longT h (by decide)
theorem m1501 (h : Hs) : binop .mul (.str [32]) (.int 1501) h = .ok (.str (rep 1501 [32])) h := mul_str [32] 1501 h (by decide) (by decide)
theorem m1500 (h : Hs) : binop .mul (.str [32]) (.int 1500) h = .ok (.str (rep 1500 [32])) h := mul_str [32] 1500 h (by decide) (by decide)
theorem m70 (h : Hs) : binop .mul (.str ifB) (.int 70) h = .ok (.str (rep 70 ifB)) h := mul_str ifB 70 h (by decide) (by decide)
theorem t1501 (h : Hs) : pureCall (CC 59) 13 [.str (rep 1501 [32])] h = .ok (.tup [.int 0, .str longT]) h :=
  told_long (by rw [rep_space]; decide) (by rw [rep_space]; decide) h
theorem fnF_len : (fnF ++ rep 1500 [32]).length = 1510 := by rw [List.length_append, rep_space]; rfl
theorem tfnF (h : Hs) : pureCall (CC 59) 13 [.str (fnF ++ rep 1500 [32])] h = .ok (.tup [.int 0, .str longT]) h :=
  told_long (by rw [fnF_len]; decide) (by rw [fnF_len]; decide) h
theorem afnF (h : Hs) : binop .add (.str fnF) (.str (rep 1500 [32])) h = .ok (.str (fnF ++ rep 1500 [32])) h :=
  add_str _ _ h (by rw [rep_space]; decide)
theorem semi_len : (fnB ++ rep 70 ifB ++ [59]).length = 289 := by rw [List.length_append, List.length_append, rep_len]; rfl
theorem tsemi (h : Hs) : pureCall (CC 59) 13 [.str (fnB ++ rep 70 ifB ++ [59])] h = .ok (.tup [.int 146, .str tokUU]) h :=
  told_no (by rw [semi_len]; decide) semi h
theorem asemi1 (h : Hs) : binop .add (.str fnB) (.str (rep 70 ifB)) h = .ok (.str (fnB ++ rep 70 ifB)) h :=
  add_str _ _ h (by rw [rep_len]; decide)
theorem asemi2 (h : Hs) : binop .add (.str (fnB ++ rep 70 ifB)) (.str [59]) h = .ok (.str (fnB ++ rep 70 ifB ++ [59])) h :=
  add_str _ _ h (by rw [List.length_append, rep_len]; decide)
theorem semi_ne (h : Hs) : cmpv h .ne (.tup [.int 146, .str tokUU]) (.tup [.int 146, .str tokUU]) = some false := eqv_pair 146 tokUU h (by decide)
theorem m270 (h : Hs) : binop .mul (.int 2) (.int 70) h = .ok (.int 140) h := mul_l 2 70 h (by decide)
theorem a146 (h : Hs) : binop .add (.int 6) (.int 140) h = .ok (.int 146) h := rfl
theorem cons_nx {G : Gm} {C : Cl} {s : S} {r : Ss} {σ : Ev} {h : Hs} {σ1 : Ev} {h1 : Hs} (e : evS G C s σ h = .nx σ1 h1) : evSs G C (.cons s r) σ h = evSs G C r σ1 h1 := by
  simp only [evSs, e, RS.then]
theorem cons_rt {G : Gm} {C : Cl} {s : S} {r : Ss} {σ : Ev} {h : Hs} {d : D} {h1 : Hs} (e : evS G C s σ h = .rt d h1) : evSs G C (.cons s r) σ h = .rt d h1 := by
  simp only [evSs, e, RS.then]
section
variable {h : Hs} {x3 x4 x5 x6 x7 x8 x9 x10 x11 : Option D}
theorem st7g {C : Cl} {T a b : List Nat} {due : D} (pT : ∀ h, pureCall C 13 [.str T] h = .ok due h) (nd : ∀ h, cmpv h .ne due due = some false) (ma : ∀ h, binop .mul (.str [32]) (.int 1501) h = .ok (.str a) h) (pa : ∀ h, pureCall C 13 [.str a] h = .ok (.tup [.int 0, .str longT]) h) (mb : ∀ h, binop .mul (.str [32]) (.int 1500) h = .ok (.str b) h) (pb : ∀ h, pureCall C 4 [.str b] h = .ok (.tup []) h) : evS pk.gm C A7 (lawE x3 x4 (some (.str T)) (some due) x7 x8 x9 x10 x11) h = .nx (lawE x3 x4 (some (.str T)) (some due) x7 x8 x9 x10 x11) h := by
  simp [A7, evSs, evS, evE, evAs, sVar, sPure, sBin, sTup, big, ck13, ck4, tOrB, tCmpB, pT, nd, ma, pa, mb, pb, long_ne, eqv_nil, Z.R.bind, Z.R.thenS, RS.then]
theorem st8g {C : Cl} {b c r u v : List Nat} (mb : ∀ h, binop .mul (.str [32]) (.int 1500) h = .ok (.str b) h) (ab : ∀ h, binop .add (.str fnF) (.str b) h = .ok (.str c) h) (pc : ∀ h, pureCall C 13 [.str c] h = .ok (.tup [.int 0, .str longT]) h) (mr : ∀ h, binop .mul (.str ifB) (.int 70) h = .ok (.str r) h) (ar : ∀ h, binop .add (.str fnB) (.str r) h = .ok (.str u) h) (au : ∀ h, binop .add (.str u) (.str [59]) h = .ok (.str v) h) (pv : ∀ h, pureCall C 13 [.str v] h = .ok (.tup [.int 146, .str tokUU]) h) : evS pk.gm C A8 (lawE x3 x4 x5 x6 x7 x8 x9 x10 x11) h = .nx (lawE x3 x4 x5 x6 x7 x8 x9 x10 x11) h := by
  simp [A8, evSs, evS, evE, evAs, sVar, sPure, sBin, sTup, big, ck13, tOrB, tCmpB, mb, ab, pc, mr, ar, au, pv, m270, a146, long_ne, semi_ne, Z.R.bind, Z.R.thenS, RS.then]
theorem st7 {d : Nat} (hd : d < 3) : evS pk.gm (CC 59) A7 (lawE x3 x4 (some (.str (deepT d))) (some (dueD d)) x7 x8 x9 x10 x11) h = .nx (lawE x3 x4 (some (.str (deepT d))) (some (dueD d)) x7 x8 x9 x10 x11) h :=
  st7g (deep_ok hd) (due_ne d) m1501 t1501 m1500 blank_ok
theorem st8 : evS pk.gm (CC 59) A8 (lawE x3 x4 x5 x6 x7 x8 x9 x10 x11) h = .nx (lawE x3 x4 x5 x6 x7 x8 x9 x10 x11) h :=
  st8g m1500 afnF tfnF m70 asemi1 asemi2 tsemi
theorem st4 {d : Nat} (hd : d < 3) : evS pk.gm (CC 59) A4 (lawE x3 (some (.int (60 + d : Nat))) x5 x6 x7 x8 x9 x10 x11) h = .nx (lawE x3 (some (.int (60 + d : Nat))) (some (.str (deepT d))) x6 x7 x8 x9 x10 x11) h := by
  have e1 : ∀ h, binop .sub (.int (60 + d : Nat)) (.int 1) h = .ok (.int (59 + d : Nat)) h := fun h => by
    rw [sub_int]
    congr 2
    omega
  have e2 : ∀ h, binop .mul (.str ifB) (.int (59 + d : Nat)) h = .ok (.str (rep (59 + d) ifB)) h := fun h => mul_str _ _ h (by show 4 * (59 + d) ≤ 1000000; omega) (by omega)
  have e3 : ∀ h, binop .mul (.str [125]) (.int (60 + d : Nat)) h = .ok (.str (rep (60 + d) [125])) h := fun h => mul_str _ _ h (by show 1 * (60 + d) ≤ 1000000; omega) (by omega)
  have e4 : ∀ h, binop .add (.str fnB) (.str (rep (59 + d) ifB)) h = .ok (.str (fnB ++ rep (59 + d) ifB)) h := fun h => add_str _ _ h (by rw [rep_len]; show 8 + (59 + d) * 4 ≤ 1000000; omega)
  have e5 : ∀ h, binop .add (.str (fnB ++ rep (59 + d) ifB)) (.str (rep (60 + d) [125])) h = .ok (.str (deepT d)) h := fun h => add_str _ _ h (by rw [List.length_append, rep_len, rep_len]; show 8 + (59 + d) * 4 + (60 + d) * 1 ≤ 1000000; omega)
  generalize hg : ((60 + d : Nat) : Int) = g at *
  simp only [A4, evS, evE, sVar, sBin, Z.R.bind, Z.R.thenS, List.getElem?_cons_succ, List.getElem?_cons_zero, e1, e2, e3, e4, e5]
  rfl
theorem st3 {l : List Int} {k : Nat} (L : LI h l k) : ∃ d h', d < 3 ∧ evS pk.gm (CC 59) A3 (lawE x3 x4 x5 x6 x7 x8 x9 x10 x11) h = .nx (lawE x3 (some (.int (60 + d : Nat))) x5 x6 x7 x8 x9 x10 x11) h' ∧ LI h' l (k + 1) := by
  have d1 := draw_ok (n := 58) L.box (m := 3) (by omega)
  obtain ⟨b1, b2⟩ := drawn_lt (l := l) (k := k) (m := 3) (by omega)
  obtain ⟨d, hd⟩ : ∃ d : Nat, drawn l k 3 = d := ⟨(drawn l k 3).toNat, by omega⟩
  rw [hd] at d1 b2
  refine ⟨d, _, by omega, ?_, L.drawn⟩
  simp [A3, evS, evE, evAs, sVar, sCall, sBin, ck11, d1, add_int, Z.R.bind, Z.R.thenS]
theorem st5 : evS pk.gm (CC 59) A5 (lawE x3 x4 x5 x6 x7 x8 x9 x10 x11) h = .nx (lawE x3 x4 x5 (some (.tup [])) x7 x8 x9 x10 x11) h := by
  simp [A5, evS, evE, evAs, sTup, big, Z.R.bind, Z.R.thenS]
theorem st6 {d : Nat} (hd : d < 3) : evS pk.gm (CC 59) A6 (lawE x3 (some (.int (60 + d : Nat))) x5 (some (.tup [])) x7 x8 x9 x10 x11) h = .nx (lawE x3 (some (.int (60 + d : Nat))) x5 (some (dueD d)) x7 x8 x9 x10 x11) h := by
  have : d = 0 ∨ d = 1 ∨ d = 2 := by omega
  rcases this with rfl | rfl | rfl <;> simp [A6, evSs, evS, evE, evAs, sVar, sTup, big, tCmpB, gt_int, dueD, Z.R.bind, Z.R.thenS, RS.then]
theorem st9 {l : List Int} {k : Nat} (L : LI h l k) : ∃ m h', m ≤ 497 ∧ evS pk.gm (CC 59) A9 (lawE x3 x4 x5 x6 x7 x8 x9 x10 x11) h = .nx (lawE x3 x4 x5 x6 (some (.int (m : Nat))) x8 x9 x10 x11) h' := by
  have d1 := draw_ok (n := 58) L.box (m := 497) (by omega)
  obtain ⟨b1, b2⟩ := drawn_lt (l := l) (k := k) (m := 497) (by omega)
  obtain ⟨m, hm⟩ : ∃ m : Nat, 1 + drawn l k 497 = m := ⟨(1 + drawn l k 497).toNat, by omega⟩
  refine ⟨m, h.set 2 (.lst [.ref 1, .int (k + 1)]), by omega, ?_⟩
  simp only [A9, evS, evE, evAs, sVar, sCall, sBin, ck11, Z.R.bind, Z.R.thenS, List.getElem?_cons_succ, List.getElem?_cons_zero, d1, add_int, hm, if_true]
  rfl
theorem st10 {m : Nat} (hm : m ≤ 497) : evS pk.gm (CC 59) A10 (lawE x3 x4 x5 x6 (some (.int m)) x8 x9 x10 x11) h = .rt (.bl true) h := by
  have e1 : ∀ h, binop .mul (.str [105, 102, 123]) (.int m) h = .ok (.str (rep m [105, 102, 123])) h := fun h => mul_str _ _ h (by show 3 * m ≤ 1000000; omega) (by omega)
  have e2 : ∀ h, binop .add (.str preT) (.str (rep m [105, 102, 123])) h = .ok (.str (preT ++ rep m [105, 102, 123])) h := fun h => add_str _ _ h (by rw [rep_len]; show 7 + m * 3 ≤ 1000000; omega)
  have e3 := many_ok hm
  have e4 : ∀ h, binop .mul (.int 2) (.int m) h = .ok (.int (2 * m)) h := fun h => mul_l 2 m h (by decide)
  have e5 : ∀ h, cmpop .eq (.tup [.int (6 + 2 * m), .str tokE]) (.tup [.int (6 + 2 * m), .str tokE]) h = .ok (.bl true) h := fun h => eqq_pair _ _ h (by decide)
  simp [A10, evS, evE, evAs, sVar, sPure, sBin, sTup, sCmp, big, ck13, e1, e2, e3, e4, e5, add_int, Z.R.bind, Z.R.thenS]
end
theorem end_law {h : Hs} {l : List Int} {k : Nat} (L : LI h l k) (x3 x4 x5 x6 x7 x8 x9 x10 x11 : Option D) : ∃ h', fin3 (evSs pk.gm (CC 59) AR (lawE x3 x4 x5 x6 x7 x8 x9 x10 x11) h) = .ok (.bl true) h' := by
  obtain ⟨d, h1, hd, e3, L1⟩ := st3 (x3 := x3) (x4 := x4) (x5 := x5) (x6 := x6) (x7 := x7) (x8 := x8) (x9 := x9) (x10 := x10) (x11 := x11) L
  obtain ⟨m, h2, hm, e9⟩ := st9 (x3 := x3) (x4 := some (.int (60 + d : Nat))) (x5 := some (.str (deepT d))) (x6 := some (dueD d)) (x7 := x7) (x8 := x8) (x9 := x9) (x10 := x10) (x11 := x11) L1
  refine ⟨h2, ?_⟩
  unfold AR
  rw [cons_nx e3, cons_nx (st4 hd), cons_nx st5, cons_nx (st6 hd), cons_nx (st7 hd), cons_nx st8, cons_nx e9, cons_rt (st10 hm)]
  rfl
theorem loop_law {h : Hs} {l : List Int} {k : Nat} (L : LI h l k) (x3 x4 x5 x6 x7 x8 x9 x10 x11 : Option D) : ∃ y3 y5 y6 y7 y8 y9 y10 y11 h' k', evS pk.gm (CC 59) A2 (lawE x3 x4 x5 x6 x7 x8 x9 x10 x11) h = .nx (lawE y3 x4 y5 y6 y7 y8 y9 y10 y11) h' ∧ LI h' l k' := by
  obtain ⟨σ', h', e, y3, y5, y6, y7, y8, y9, y10, y11, k', rfl, q⟩ := each_inv (src := .rng 0 6) (tg := .nm 3) (b := evSs pk.gm (CC 59) LB) 6 (fun i σ h => ∃ y3 y5 y6 y7 y8 y9 y10 y11 k', σ = lawE y3 x4 y5 y6 y7 y8 y9 y10 y11 ∧ LI h l k') (fun i σ h hi ⟨y3, y5, y6, y7, y8, y9, y10, y11, k', e1, e2⟩ => by
    subst e1
    obtain ⟨z5, z6, z7, z8, z9, z10, z11, h', k2, q1, q2⟩ := turn_ok e2 (some (.int (0 + i))) x4 y5 y6 y7 y8 y9 y10 y11
    exact ⟨.int (0 + i), _, _, _, by simp only [Src.item, hi, if_true], rfl, .inl q1, _, _, _, _, _, _, _, _, _, rfl, q2⟩) (fun σ h _ => by simp [Src.item]) loopFuel 0 _ h (by omega) (by rw [fuel_big]; omega) ⟨x3, x5, x6, x7, x8, x9, x10, x11, k, rfl, L⟩
  refine ⟨y3, y5, y6, y7, y8, y9, y10, y11, h', k', ?_, q⟩
  have : evI pk.gm (CC 59) (.rng1 (.con (.int 6))) (lawE x3 x4 x5 x6 x7 x8 x9 x10 x11) h = .ok (.rng 0 6) h := rfl
  simp only [A2, evS]
  rw [this]
  exact e
theorem pre_law (ns : List Int) : ∃ l h, evSs pk.gm (CC 59) (.cons A0 (.cons A1 .nil)) (startD 12 [.ref 0]) (hs0 ns) = .nx (lawE none none none none none none none none none) h ∧ LI h l 0 := by
  obtain ⟨l, e⟩ := digits_ok (n := 57) (ns := ns) 20 (by omega)
  have ck10 : ∀ a b c, ckargs (pk.gm.np 10) [a, b, c] = true := fun _ _ _ => rfl
  have c20 : ((20 : Nat) : Int) = 20 := rfl
  rw [c20] at e
  refine ⟨l, ((((((dgH ns l).new (.lst [.ref 1, .int 0])).new (.lst [.str [], .int 0])).new (.lst [.str [102, 110, 32, 97, 40, 41, 32, 123, 32, 125, 10], .int 6])).new (.lst [.str [102, 110, 32, 98, 40, 112, 58, 32, 111, 119, 110, 44, 32, 113, 58, 32, 109, 117, 116, 41, 32, 45, 62, 32, 111, 119, 110, 32, 123, 32, 114, 101, 116, 117, 114, 110, 32, 112, 59, 32, 125, 32, 102, 110, 32, 99, 40, 41, 32, 123, 32, 105, 102, 32, 123, 32, 125, 32, 101, 108, 115, 101, 32, 123, 32, 108, 111, 111, 112, 32, 123, 32, 98, 114, 101, 97, 107, 59, 32, 125, 32, 125, 32, 125], .int 35])).new (.lst [.ref 3, .ref 4, .ref 5])), ?_, ⟨⟨rfl, rfl, by decide⟩, rfl, ?_, Nat.le_refl 7⟩⟩
  · simp [A0, A1, evSs, evS, evE, evAs, sLst, sCall, sVar, ck10, e, startD, big, Z.R.bind, Z.R.thenS, RS.then]
    simp [dgH, Hs.new]
  · intro d q hq
    have hd : d < 3 := (List.getElem?_eq_some_iff.mp hq).1
    have : d = 0 ∨ d = 1 ∨ d = 2 := by omega
    rcases this with rfl | rfl | rfl <;> cases hq <;> rfl
theorem law_ok (ns : List Int) (hl : ns.length ≤ 63) : ∃ h', callN pk.gm pk.fT 60 14 [.ref 0] (hs0 ns) = .ok (.bl true) h' := by
  obtain ⟨l, h, e, L⟩ := pre_law ns
  obtain ⟨y3, y5, y6, y7, y8, y9, y10, y11, h1, k', e2, L2⟩ := loop_law L none none none none none none none none none
  obtain ⟨h2, e3⟩ := end_law L2 y3 none y5 y6 y7 y8 y9 y10 y11
  refine ⟨h2, ?_⟩
  have c := call_at (n := 59) (f := 14) (r := r14) (ds := [.ref 0]) (h := hs0 ns) rfl rfl
  refine c.trans ?_
  rw [run_fin]
  have hb : r14.fn.body = .cons A0 (.cons A1 (.cons A2 AR)) := b14_is
  have hn : r14.fn.ns = 12 := rfl
  rw [hb, hn]
  have sp : ∀ s t r σ h σ1 h1, evSs pk.gm (CC 59) (.cons s (.cons t .nil)) σ h = .nx σ1 h1 → evSs pk.gm (CC 59) (.cons s (.cons t r)) σ h = evSs pk.gm (CC 59) r σ1 h1 := by
    intro s t r σ h σ1 h1 q
    simp only [evSs] at q ⊢
    cases q1 : evS pk.gm (CC 59) s σ h with
    | nx σ2 h2 =>
      rw [q1] at q
      simp only [RS.then] at q ⊢
      cases q2 : evS pk.gm (CC 59) t σ2 h2 with
      | nx σ3 h3 => rw [q2] at q; simp only [RS.then] at q ⊢; injection q with qa qb; rw [qa, qb]
      | _ => rw [q2] at q; simp only [RS.then] at q; cases q
    | _ => rw [q1] at q; simp only [RS.then] at q; cases q
  rw [sp _ _ _ _ _ _ _ e, cons_nx e2]
  exact e3
end K1
end
section
set_option Elab.async false
set_option linter.all false
set_option maxRecDepth 100000
set_option maxHeartbeats 0
namespace Z
open PySem L2 PyProof.Rows
def obsL (as : List Addr) (fa : List He.Fa) (fn : List He.DefD) (ex : PySem.W.Frag → Bool) (g : Addr → Option Obj) : AlZ := (He.obsD fa fn (He.frG g as), ex (He.frG g as))
def hookL (as : List Addr) (fa : List He.Fa) (fn : List He.DefD) (ex : PySem.W.Frag → Bool) : PySem.W.Hook where
  α := AlZ
  obs := fun s => obsL as fa fn ex s.heap.get?
  val := fun _ => (He.valD fn, true)
  says := fun _ h => ∃ K : PySem.W.Frag, K.In h ∧ He.SaysD fa fn K ∧ ex K = true
  of := fun _ _ e => ⟨_, He.frG_in, congrArg Prod.fst e, congrArg Prod.snd e⟩
  keeps := fun _ _ _ ⟨K, hK, c⟩ k => ⟨K, PySem.W.Frag.In.keeps hK k, c⟩
theorem obsL_eq {as : List Addr} {fa : List He.Fa} {fn : List He.DefD} {ex : PySem.W.Frag → Bool} {g : Addr → Option Obj} {s : Shared} (h : ∀ a, g a = s.heap.get? a) : obsL as fa fn ex g = (hookL as fa fn ex).obs s := by
  obtain rfl : g = s.heap.get? := funext h
  rfl
end Z
namespace K1
open PySem PySem.W PySem.Calls PyProof.Rows
abbrev RR : OpenRow := OpenLaw.row PySem.Challenge.rw_loancheck_k01_faults_of_texts
def addrs : List Addr := [3, 6, 4, 24, 44, 63, 70, 77, 84, 91, 98, 103, 258, 269, 276, 283, 396, 401, 402, 409, 416, 423, 430, 437, 444, 594, 615, 626, 633, 640, 647, 654, 661, 668, 675, 682, 0, 23, 43, 62, 69, 76, 83, 90, 97, 102, 257, 268, 275, 282, 395, 408, 415, 422, 429, 436, 443, 593, 614, 625, 632, 639, 646, 653, 660, 667, 674, 681, 22, 25, 41, 42, 60, 61, 66, 67, 68, 71, 72, 73, 74, 75, 78, 79, 80, 81, 82, 85, 86, 87, 88, 89, 92, 93, 94, 95, 96, 99, 100, 101, 117, 124, 131, 138, 145, 152, 159, 166, 173, 180, 187, 194, 201, 208, 215, 222, 229, 236, 241, 248, 255, 256, 259, 260, 263, 264, 265, 266, 267, 270, 271, 272, 273, 274, 277, 278, 279, 280, 281, 295, 302, 309, 316, 323, 330, 337, 344, 351, 358, 365, 372, 379, 386, 393, 394, 397, 398, 403, 404, 405, 406, 407, 410, 411, 412, 413, 414, 417, 418, 419, 420, 421, 424, 425, 426, 427, 428, 431, 432, 433, 434, 435, 438, 439, 440, 441, 442, 458, 465, 472, 479, 486, 493, 500, 507, 514, 521, 528, 535, 542, 549, 556, 563, 570, 577, 584, 591, 592, 595, 596, 612, 613, 616, 617, 620, 621, 622, 623, 624, 627, 628, 629, 630, 631, 634, 635, 636, 637, 638, 641, 642, 643, 644, 645, 648, 649, 650, 651, 652, 655, 656, 657, 658, 659, 662, 663, 664, 665, 666, 669, 670, 671, 672, 673, 676, 677, 678, 679, 680, 40, 59, 116, 123, 130, 137, 144, 151, 158, 165, 172, 179, 186, 193, 200, 207, 214, 221, 228, 235, 240, 247, 254, 294, 301, 308, 315, 322, 329, 336, 343, 350, 357, 364, 371, 378, 385, 392, 457, 464, 471, 478, 485, 492, 499, 506, 513, 520, 527, 534, 541, 548, 555, 562, 569, 576, 583, 590, 611, 35, 36, 37, 38, 39, 54, 55, 56, 57, 58, 111, 112, 113, 114, 115, 118, 119, 120, 121, 122, 125, 126, 127, 128, 129, 132, 133, 134, 135, 136, 139, 140, 141, 142, 143, 146, 147, 148, 149, 150, 153, 154, 155, 156, 157, 160, 161, 162, 163, 164, 167, 168, 169, 170, 171, 174, 175, 176, 177, 178, 181, 182, 183, 184, 185, 188, 189, 190, 191, 192, 195, 196, 197, 198, 199, 202, 203, 204, 205, 206, 209, 210, 211, 212, 213, 216, 217, 218, 219, 220, 223, 224, 225, 226, 227, 230, 231, 232, 233, 234, 237, 238, 239, 242, 243, 244, 245, 246, 249, 250, 251, 252, 253, 291, 292, 293, 296, 297, 298, 299, 300, 303, 304, 305, 306, 307, 310, 311, 312, 313, 314, 317, 318, 319, 320, 321, 324, 325, 326, 327, 328, 331, 332, 333, 334, 335, 338, 339, 340, 341, 342, 345, 346, 347, 348, 349, 352, 353, 354, 355, 356, 359, 360, 361, 362, 363, 366, 367, 368, 369, 370, 373, 374, 375, 376, 377, 380, 381, 382, 383, 384, 387, 388, 389, 390, 391, 452, 453, 454, 455, 456, 459, 460, 461, 462, 463, 466, 467, 468, 469, 470, 473, 474, 475, 476, 477, 480, 481, 482, 483, 484, 487, 488, 489, 490, 491, 494, 495, 496, 497, 498, 501, 502, 503, 504, 505, 508, 509, 510, 511, 512, 515, 516, 517, 518, 519, 522, 523, 524, 525, 526, 529, 530, 531, 532, 533, 536, 537, 538, 539, 540, 543, 544, 545, 546, 547, 550, 551, 552, 553, 554, 557, 558, 559, 560, 561, 564, 565, 566, 567, 568, 571, 572, 573, 574, 575, 578, 579, 580, 581, 582, 585, 586, 587, 588, 589, 606, 607, 608, 609, 610, 2]
abbrev hk : Hook := Z.hookL addrs pk.fa pk.defs pk.ex
def ob (s : SharedT) : Z.AlZ := Z.obsL addrs pk.fa pk.defs pk.ex (HandSHeadRun.getT s)
theorem ob_eq (s : SharedT) : ob s = hk.obs s.abs := Z.obsL_eq (HandSHeadRun.getT_eq s)
def names0 : List PySem.Str := ["LoanError", "BadText", "BadRule", "result_kinds", "expression_kind", "variable_kinds", "all_statements", "inner_blocks", "graph", "Sketch", "MOST_FUNCTIONS", "MOST_PARAMETERS", "MOST_VARIABLES", "MOST_NODES", "rule_fault"]
def names1 : List PySem.Str := ["look_at_names", "look_at_function", "FunctionLook", "LONGEST_TEXT", "DEEPEST_BLOCK", "LONGEST_NAME", "WORDS", "KINDS", "parse_text", "parse_program", "split_tokens", "token_end", "is_letter", "is_name", "Reader"]
def names2 : List PySem.Str := ["OpenBlock", "_law_is_integer", "_law_cell", "_law_list_is", "_law_same", "_law_digits", "_law_draw", "_law_rows", "_law_told"]
def names : List PySem.Str := names0 ++ names1 ++ names2
theorem run (w : World) : HandSHeadRun.RunEq RR (view RR.prog [45]) hk ob 20000 names w := by
  intro os
  kernel_rfl
end K1
end
set_option Elab.async false
set_option linter.all false
set_option maxRecDepth 100000
set_option maxHeartbeats 0
open PySem PySem.W PySem.Calls PyProof.Rows
theorem PySem.Challenge.cw_loancheck_k01_faults_of_texts_holds : PySem.Challenge.rw_loancheck_k01_faults_of_texts.Holds := by
  w_on; o_law
  refine HandSHeadRun.head_any (r := OpenLaw.row PySem.Challenge.rw_loancheck_k01_faults_of_texts) (q := view (OpenLaw.row PySem.Challenge.rw_loancheck_k01_faults_of_texts).prog [45]) (H := K1.hk) (ob := K1.ob) (M := 20000) (loose := K1.names) (d := HandSHeadRun.topDef (OpenLaw.row PySem.Challenge.rw_loancheck_k01_faults_of_texts).prog 45) (kwd := []) K1.ob_eq
    (by kernel_rfl) (fun s => by kernel_rfl) K1.run (by kernel_rfl) (by kernel_rfl) (by kernel_rfl) (by rfl) (by first | assumption | decide +kernel) (by decide +kernel) ⟨rfl, rfl, rfl, rfl, rfl, by decide +kernel⟩ ?hw ?hc
  case hw => w_witness2
  case hc => exact Z.walkZ (m := 6) K1.pk K1.fo K1.rbs K1.xbs K1.lb K1.bps K1.xps (R := K1.r14) (y := "law") (n := 60) rfl (by kernel_rfl) (by kernel_rfl) rfl rfl rfl ⟨rfl, by decide, by decide⟩ K1.law_ok
