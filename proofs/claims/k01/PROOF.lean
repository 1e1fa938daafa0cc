import PyProof.Rows.All
import Wide.All
import OpenK.AllK
import Wide.FinOn
import HandS.ForMost
import HandS.ForExc
import HandS.CallSlots
import HandS.IsInst
import HandS.TupAny
import HandS.TupMul
import HandS.Wide
import HandS.Style
import HandS.Flow
import HandS.Evl
import HandS.ExcValue
import HandS.ExcIs
import HandS.Lambda
import HandS.Small
import HandS.TupLe
import HandS.Ends
import HandS.Conv
import PyProof.Rows.CountFlat
import HandS.SetFor
import HandS.EndTab
import KE.KDictZip
import KE.GoesMore
import HandS.Star
import HandS.Head2
import HandS.HeadHook4
import HandS.ExcInit
import HandS.FStr
import HandS.ExcField
import HandS.RaiseMore
import HandS.Sort
import PyProof.ReprLen
import PySem.Challenge.RW_ticklay_k01_tables
set_option Elab.async false
set_option linter.all false
set_option maxRecDepth 100000
set_option maxHeartbeats 1000000
/-! Vf0: what a value is worth as data; the state that a def's slots and heap stand for; expressions and statements as plain functions of it. -/
namespace Vf
open PySem PySem.Spec PyProof.Rows L2

/-! ### heaps -/
def Sub (G G' : Hp) : Prop := ∀ a o, G a = some o → G' a = some o
theorem Sub.refl (G : Hp) : Sub G G := fun _ _ h => h
theorem Sub.trans {A B C : Hp} (x : Sub A B) (y : Sub B C) : Sub A C := fun a o h => y a o (x a o h)
/-- the heap without some addresses -/
def NotT (o : HO) : Prop := ∀ ps, o ≠ .tbl ps
def noTbl : Option HO → Option HO
  | some (.tbl _) => none
  | x => x
theorem noTbl_some {x : Option HO} {o : HO} (h : noTbl x = some o) : x = some o ∧ NotT o := by
  unfold noTbl at h
  split at h
  · cases h
  · rename_i n; subst h; exact ⟨rfl, fun ps z => n ps (by rw [z])⟩
theorem noTbl_of {o : HO} (n : NotT o) : noTbl (some o) = some o := by
  unfold noTbl
  split
  · rename_i ps e; cases e; exact (n _ rfl).elim
  · rfl
/-- .. and without the tables of code -/
def hid (ow : List Addr) (H : Hp) : Hp := fun b => if b ∈ ow then none else noTbl (H b)
theorem hid_in {ow : List Addr} {H : Hp} {b : Addr} (h : b ∈ ow) : hid ow H b = none := by unfold hid; rw [if_pos h]
theorem hid_at {ow : List Addr} {H : Hp} {b : Addr} {o : HO} (h : b ∉ ow) (e : H b = some o) (n : NotT o := by intro _ z; cases z) : hid ow H b = some o := by unfold hid; rw [if_neg h, e, noTbl_of n]
theorem hid_eqAt {ow : List Addr} {H H' : Hp} {b : Addr} (e : H b = H' b) : hid ow H b = hid ow H' b := by unfold hid; rw [e]
theorem hid_some {ow : List Addr} {H : Hp} {b : Addr} {o : HO} (h : hid ow H b = some o) : b ∉ ow ∧ H b = some o := by
  by_cases e : b ∈ ow
  · rw [hid_in e] at h; cases h
  · unfold hid at h; rw [if_neg e] at h; exact ⟨e, (noTbl_some h).1⟩
theorem hid_nt {ow : List Addr} {H : Hp} {b : Addr} {o : HO} (h : hid ow H b = some o) : NotT o := by
  by_cases e : b ∈ ow
  · rw [hid_in e] at h; cases h
  · unfold hid at h; rw [if_neg e] at h; exact (noTbl_some h).2
theorem hid_sub {ow : List Addr} {H : Hp} : Sub (hid ow H) H := fun _ _ h => (hid_some h).2
theorem hid_anti {ow ow' : List Addr} {H : Hp} (s : ∀ b ∈ ow, b ∈ ow') : Sub (hid ow' H) (hid ow H) := fun b o h => by
  obtain ⟨h1, h2⟩ := hid_some h
  exact hid_at (fun z => h1 (s b z)) h2 (hid_nt h)
/-- all but mu stays (and the tables of code) -/
def Pres (mu : List Addr) (H H' : Hp) : Prop := ∀ b o, b ∉ mu → NotT o → H b = some o → H' b = some o
theorem Pres.refl {mu : List Addr} (H : Hp) : Pres mu H H := fun _ _ _ _ h => h
theorem Pres.trans {mu : List Addr} {A B C : Hp} (x : Pres mu A B) (y : Pres mu B C) : Pres mu A C := fun b o n t h => y b o n t (x b o n t h)
theorem Pres.of {mu : List Addr} {H H' : Hp} (s : Sub H H') : Pres mu H H' := fun b o _ _ h => s b o h
theorem Pres.mono {mu mu' : List Addr} {H H' : Hp} (s : ∀ b ∈ mu, b ∈ mu') (x : Pres mu H H') : Pres mu' H H' := fun b o n t h => x b o (fun z => n (s b z)) t h
theorem hid_pres {ow mu : List Addr} {H H' : Hp} (s : ∀ b ∈ mu, b ∈ ow) (p : Pres mu H H') : Sub (hid ow H) (hid ow H') := fun b o h => by
  obtain ⟨h1, h2⟩ := hid_some h
  have t := hid_nt h
  exact hid_at h1 (p b o (fun z => h1 (s b z)) t h2) t
/-- nothing there, or a table of code -/
def Nil (H : Hp) (b : Addr) : Prop := noTbl (H b) = none
theorem Nil.of {H : Hp} {b : Addr} (h : H b = none) : Nil H b := by unfold Nil; rw [h]; rfl
theorem Nil.no {H : Hp} {b : Addr} {o : HO} {P : Prop} (n : Nil H b) (t : NotT o) (h : H b = some o) : P := by unfold Nil at n; rw [h, noTbl_of t] at n; cases n
/-- what is hidden more was not there -/
def Grow (H : Hp) (ow ow' : List Addr) : Prop := (∀ b ∈ ow, b ∈ ow') ∧ ∀ b ∈ ow', b ∈ ow ∨ Nil H b
theorem Grow.refl (H : Hp) (ow : List Addr) : Grow H ow ow := ⟨fun _ h => h, fun _ h => .inl h⟩
theorem hid_grow {ow ow' mu : List Addr} {H H' : Hp} (g : Grow H ow ow') (s : ∀ b ∈ mu, b ∈ ow) (p : Pres mu H H') : Sub (hid ow H) (hid ow' H') := fun b o h => by
  obtain ⟨h1, h2⟩ := hid_some h
  have t := hid_nt h
  exact hid_at (fun z => (g.2 b z).elim h1 fun n => n.no t h2) (p b o (fun z => h1 (s b z)) t h2) t
theorem Grow.trans {mu ow ow' ow'' : List Addr} {H H' : Hp} (g : Grow H ow ow') (p : Pres mu H H') (s : ∀ b ∈ mu, b ∈ ow) (g' : Grow H' ow' ow'') : Grow H ow ow'' :=
  ⟨fun b h => g'.1 b (g.1 b h), fun b h => by
    rcases g'.2 b h with z | z
    · exact g.2 b z
    · by_cases hb : b ∈ ow
      · exact .inl hb
      · right
        show noTbl (H b) = none
        cases e : noTbl (H b) with
        | none => rfl
        | some o =>
          obtain ⟨e1, t⟩ := noTbl_some e
          exact z.no t (p b o (fun q => hb (s b q)) t e1)⟩
theorem sub_upd {G : Hp} {p : Addr} {o : HO} (h : G p = none) : Sub G (upd G p o) := fun b u e => by rw [upd_ne (ne_of_none e h)]; exact e

/-! ### values as data -/
mutual
inductive Rp (K : PySem.W.Frag) (G : Hp) : V → PyData → Prop
  | non : Rp K G .non .none
  | bl (b : Bool) : Rp K G (.bl b) (.bool b)
  | int (i : Int) : Rp K G (.int i) (.int i)
  | str (x : Str) : Rp K G (.str x) (.str x)
  | lst {a : Addr} {xs : List V} {ds : List PyData} : G a = some (.lst xs) → RpAll K G xs ds → Rp K G (.ref a) (.list ds)
  | tup {a : Addr} {xs : List V} {ds : List PyData} : SqT K G a xs → RpAll K G xs ds → Rp K G (.ref a) (.tuple ds)
  | dct {a : Addr} : G a = some (.dK []) → Rp K G (.ref a) (.dict [])
inductive RpAll (K : PySem.W.Frag) (G : Hp) : List V → List PyData → Prop
  | nil : RpAll K G [] []
  | cons {v : V} {vs : List V} {d : PyData} {ds : List PyData} : Rp K G v d → RpAll K G vs ds → RpAll K G (v :: vs) (d :: ds)
end
section
variable {K : PySem.W.Frag} {G G' : Hp}
theorem sqT_sub {a : Addr} {xs : List V} (s : Sub G G') (h : SqT K G a xs) : SqT K G' a xs := Evl.ex_t s h
mutual
theorem Rp.mono (s : Sub G G') : ∀ {v : V} {d : PyData}, Rp K G v d → Rp K G' v d
  | _, _, .non => .non
  | _, _, .bl b => .bl b
  | _, _, .int i => .int i
  | _, _, .str x => .str x
  | _, _, .lst h r => .lst (s _ _ h) (RpAll.mono s r)
  | _, _, .tup h r => .tup (sqT_sub s h) (RpAll.mono s r)
  | _, _, .dct h => .dct (s _ _ h)
theorem RpAll.mono (s : Sub G G') : ∀ {vs : List V} {ds : List PyData}, RpAll K G vs ds → RpAll K G' vs ds
  | _, _, .nil => .nil
  | _, _, .cons h r => .cons (Rp.mono s h) (RpAll.mono s r)
end
theorem RpAll.length : ∀ {vs : List V} {ds : List PyData}, RpAll K G vs ds → vs.length = ds.length
  | _, _, .nil => rfl
  | _, _, .cons _ r => by simp [RpAll.length r]
theorem RpAll.append : ∀ {vs ws : List V} {ds es : List PyData}, RpAll K G vs ds → RpAll K G ws es → RpAll K G (vs ++ ws) (ds ++ es)
  | _, _, _, _, .nil, s => s
  | _, _, _, _, .cons h r, s => .cons h (RpAll.append r s)
theorem RpAll.get : ∀ {vs : List V} {ds : List PyData} {i : Nat} {d : PyData}, RpAll K G vs ds → ds[i]? = some d → ∃ v, vs[i]? = some v ∧ Rp K G v d
  | _, _, _, _, .nil, e => by simp at e
  | _, _, 0, _, .cons h _, e => by simp at e; subst e; exact ⟨_, rfl, h⟩
  | _, _, i + 1, d, .cons _ r, e => by
    obtain ⟨v, h1, h2⟩ := RpAll.get (i := i) (d := d) r (by simpa using e)
    exact ⟨v, by simpa using h1, h2⟩
theorem RpAll.take : ∀ {vs : List V} {ds : List PyData} (n : Nat), RpAll K G vs ds → RpAll K G (vs.take n) (ds.take n)
  | _, _, 0, _ => by simp; exact .nil
  | _, _, _ + 1, .nil => .nil
  | _, _, n + 1, .cons h r => .cons h (RpAll.take n r)
theorem RpAll.drop : ∀ {vs : List V} {ds : List PyData} (n : Nat), RpAll K G vs ds → RpAll K G (vs.drop n) (ds.drop n)
  | _, _, 0, r => r
  | _, _, _ + 1, .nil => .nil
  | _, _, n + 1, .cons _ r => RpAll.drop n r
theorem RpAll.set : ∀ {vs : List V} {ds : List PyData} {v : V} {d : PyData} (n : Nat), RpAll K G vs ds → Rp K G v d → RpAll K G (vs.set n v) (ds.set n d)
  | _, _, _, _, _, .nil, _ => .nil
  | _, _, _, _, 0, .cons _ r, q => .cons q r
  | _, _, _, _, n + 1, .cons h r, q => .cons h (RpAll.set n r q)
theorem RpAll.eraseIdx : ∀ {vs : List V} {ds : List PyData} (n : Nat), RpAll K G vs ds → RpAll K G (vs.eraseIdx n) (ds.eraseIdx n)
  | _, _, _, .nil => .nil
  | _, _, 0, .cons _ r => r
  | _, _, n + 1, .cons h r => .cons h (RpAll.eraseIdx n r)
theorem RpAll.ints : ∀ (ns : List Int), RpAll K G (ns.map V.int) (ns.map PyData.int)
  | [] => .nil
  | n :: ns => .cons (.int n) (RpAll.ints ns)
theorem Rp.int_inv {v : V} {i : Int} (h : Rp K G v (.int i)) : v = .int i := by cases h; rfl
theorem Rp.str_inv {v : V} {x : Str} (h : Rp K G v (.str x)) : v = .str x := by cases h; rfl
theorem Rp.bl_inv {v : V} {b : Bool} (h : Rp K G v (.bool b)) : v = .bl b := by cases h; rfl
theorem Rp.non_inv {v : V} (h : Rp K G v .none) : v = .non := by cases h; rfl
theorem Rp.tup_inv {v : V} {ds : List PyData} (h : Rp K G v (.tuple ds)) : ∃ a xs, v = .ref a ∧ SqT K G a xs ∧ RpAll K G xs ds := by cases h; exact ⟨_, _, rfl, ‹_›, ‹_›⟩
theorem Rp.lst_inv {v : V} {ds : List PyData} (h : Rp K G v (.list ds)) : ∃ a xs, v = .ref a ∧ G a = some (.lst xs) ∧ RpAll K G xs ds := by cases h; exact ⟨_, _, rfl, ‹_›, ‹_›⟩
theorem RpAll.str_inv : ∀ {vs : List V} {ss : List Str}, RpAll K G vs (ss.map PyData.str) → vs = ss.map V.str
  | _, [], .nil => rfl
  | _, s :: ss, .cons h r => by rw [Rp.str_inv h, RpAll.str_inv r]; rfl
theorem RpAll.int_inv : ∀ {vs : List V} {ns : List Int}, RpAll K G vs (ns.map PyData.int) → vs = ns.map V.int
  | _, [], .nil => rfl
  | _, s :: ss, .cons h r => by rw [Rp.int_inv h, RpAll.int_inv r]; rfl
theorem RpAll.bl_inv : ∀ {vs : List V} {ns : List Bool}, RpAll K G vs (ns.map PyData.bool) → vs = ns.map V.bl
  | _, [], .nil => rfl
  | _, s :: ss, .cons h r => by rw [Rp.bl_inv h, RpAll.bl_inv r]; rfl
end

/-! ### the state -/
/-- a value that nobody changes: a range from 0; a list of errors -/
inductive XV where
  | rng (n : Nat)
  | errs (es : List (Nat × Option Int))
/-- what an expression gives: data; a new list that nobody else holds; the list of a slot; the pen; an exception; a value that nobody changes -/
inductive W where
  | d (x : PyData)
  | new (ds : List PyData)
  | own (i : Nat)
  | pen
  | exc (c : Nat) (l : Option Int)
  | xv (y : XV)
inductive Cell where
  | w (x : W)
  | lst (ds : List PyData)
structure Pen where
  ns : List Int
  i : Int
  z : Int
structure Sx where
  rho : List (Option Cell)
  pen : Option Pen
/-- the module's part, the pen's place, the classes of errors -/
structure Cb where
  K : PySem.W.Frag
  pa : Addr
  cls : Nat → Addr
  T : List (Addr × Str)
/-- what stays through a def's run: also how its heap was at the entry -/
structure Cn extends Cb where
  H0 : Hp
  mu0 : List Addr
  ow0 : List Addr
instance : Coe Cn Cb := ⟨Cn.toCb⟩
/-- an exception object of the class c -/
def ExcV (C : Cb) (H : Hp) (c : Nat) (l : Option Int) (a : Addr) : Prop := ∃ (φ : Heap → Prop) (d : Option Addr), H a = some (.ext φ) ∧
  (∀ h, φ h → ∃ (oe : Obj) (vs : Array Value), h.get? a = some oe ∧ Zc (.ref (C.cls c)) d oe ∧ oe.data = .fields vs) ∧ match l with
    | none => d = none
    | some n => ∃ dd, d = some dd ∧ H dd = some (.xd [(("line" : Str), .int n)])

inductive ErrAll (C : Cb) (G : Hp) : List V → List (Nat × Option Int) → Prop
  | nil : ErrAll C G [] []
  | cons {a : Addr} {c : Nat} {l : Option Int} {vs : List V} {es : List (Nat × Option Int)} : ExcV C G c l a → ErrAll C G vs es → ErrAll C G (.ref a :: vs) ((c, l) :: es)
def XvOk (C : Cb) (G : Hp) (v : V) : XV → Prop
  | .rng n => ∃ a, v = .ref a ∧ G a = some (.rng 0 n)
  | .errs es => ∃ a vs, v = .ref a ∧ G a = some (.lst vs) ∧ ErrAll C G vs es
theorem excV_mono {C : Cb} {G G' : Hp} {c : Nat} {l : Option Int} {a : Addr} (s : Sub G G') (h : ExcV C G c l a) : ExcV C G' c l a := by
  obtain ⟨φ, d, h1, h2, h3⟩ := h
  refine ⟨φ, d, s _ _ h1, h2, ?_⟩
  cases l with
  | none => exact h3
  | some n => obtain ⟨dd, e, q⟩ := h3; exact ⟨dd, e, s _ _ q⟩
theorem ErrAll.mono {C : Cb} {G G' : Hp} (s : Sub G G') : ∀ {vs : List V} {es : List (Nat × Option Int)}, ErrAll C G vs es → ErrAll C G' vs es
  | _, _, .nil => .nil
  | _, _, .cons h r => .cons (excV_mono s h) (r.mono s)
theorem ErrAll.length {C : Cb} {G : Hp} : ∀ {vs : List V} {es : List (Nat × Option Int)}, ErrAll C G vs es → vs.length = es.length
  | _, _, .nil => rfl
  | _, _, .cons _ r => by simp [ErrAll.length r]
theorem ErrAll.append {C : Cb} {G : Hp} {ys : List V} {fs : List (Nat × Option Int)} (h : ErrAll C G ys fs) : ∀ {vs : List V} {es : List (Nat × Option Int)}, ErrAll C G vs es → ErrAll C G (vs ++ ys) (es ++ fs)
  | _, _, .nil => h
  | _, _, .cons q r => .cons q (ErrAll.append h r)
theorem xv_mono {C : Cb} {G G' : Hp} {v : V} {y : XV} (s : Sub G G') (h : XvOk C G v y) : XvOk C G' v y := by
  cases y with
  | rng n => obtain ⟨a, e, q⟩ := h; exact ⟨a, e, s _ _ q⟩
  | errs es => obtain ⟨a, vs, e, q, r⟩ := h; exact ⟨a, vs, e, s _ _ q, r.mono s⟩
def WOk (C : Cn) (ow mu : List Addr) (σ : L2.St) (H : Hp) (S : Sx) (v : V) : W → Prop
  | .d x => Rp C.K (hid ow H) v x
  | .new ds => ∃ p vs, v = .ref p ∧ p ∈ ow ∧ p ∉ mu ∧ H p = some (.lst vs) ∧ RpAll C.K (hid ow H) vs ds
  | .own i => σ[i]? = some (some v) ∧ ∃ ds, S.rho[i]? = some (some (.lst ds))
  | .pen => v = .ref C.pa
  | .exc c l => ∃ a, v = .ref a ∧ ExcV C (hid ow H) c l a
  | .xv y => XvOk C (hid ow H) v y
def COk (C : Cn) (ow mu : List Addr) (H : Hp) (v : V) : Cell → Prop
  | .w (.d x) => Rp C.K (hid ow H) v x
  | .w .pen => v = .ref C.pa
  | .w (.exc c l) => ∃ a, v = .ref a ∧ ExcV C (hid ow H) c l a
  | .w (.xv y) => XvOk C (hid ow H) v y
  | .w _ => False
  | .lst ds => ∃ a vs, v = .ref a ∧ a ∈ mu ∧ a ≠ C.pa ∧ H a = some (.lst vs) ∧ RpAll C.K (hid ow H) vs ds

/-- a list written: the tables of code stay -/
theorem tabs_upd {T : List (Addr × Str)} {H : Hp} {a : Addr} {o : HO} {vs : List V} (t : LamX.Tabs T H) (h : H a = some (.lst vs)) : LamX.Tabs T (upd H a o) := fun p hp => by
  obtain ⟨ps, h1, h2, h3⟩ := t p hp
  refine ⟨ps, by rw [upd_ne (show p.1 ≠ a from fun z => by rw [z, h] at h1; cases h1)]; exact h1, h2, fun pos cv hc => ?_⟩
  obtain ⟨c, e1, e2⟩ := h3 pos cv hc
  exact ⟨c, e1, by rw [upd_ne (show c ≠ a from fun z => by rw [z, h] at e2; cases e2)]; exact e2⟩
/-- what is hidden is there, and no table of code -/
def Trk (ow : List Addr) (H : Hp) : Prop := ∀ b ∈ ow, ∃ o, H b = some o ∧ NotT o
structure Rel (C : Cn) (ow mu : List Addr) (σ : L2.St) (H : Hp) (S : Sx) : Prop where
  sub : ∀ b ∈ mu, b ∈ ow
  trk : Trk ow H
  tab : LamX.Tabs C.T H
  cells : ∀ (i : Nat) (c : Cell), S.rho[i]? = some (some c) → ∃ v, σ[i]? = some (some v) ∧ COk C ow mu H v c
  inj : ∀ (i j : Nat) (ds es : List PyData) (v : V), S.rho[i]? = some (some (.lst ds)) → S.rho[j]? = some (some (.lst es)) → σ[i]? = some (some v) → σ[j]? = some (some v) → i = j
  len : σ.length = S.rho.length
  base : Pres C.mu0 C.H0 H
  fresh : ∀ b ∈ mu, b ∈ C.mu0 ∨ Nil C.H0 b
  gro : Grow C.H0 C.ow0 ow
  m0 : ∀ b ∈ C.mu0, b ∈ C.ow0
  paH : C.pa ∈ ow
  pen : ∀ π, S.pen = some π → C.pa ∈ mu ∧ ∃ l, H C.pa = some (.lst [.ref l, .int π.i, .int π.z]) ∧ hid ow H l = some (.lst (π.ns.map V.int))

section
variable {C : Cn} {ow ow' mu : List Addr} {σ : L2.St} {H H' : Hp} {S S' : Sx} {v : V} {w : W}
theorem sqL_sub {K : PySem.W.Frag} {G G' : Hp} {a : Addr} {xs : List V} (s : Sub G G') (h : SqL K G a xs) : SqL K G' a xs := Evl.ex_l s h
theorem base_step (r : Rel C ow mu σ H S) (p : Pres mu H H') : Pres C.mu0 C.H0 H' := fun b o n t h => p b o (fun z => by
  rcases r.fresh b z with q | q
  · exact n q
  · exact q.no t h) t (r.base b o n t h)
/-- fewer addresses hidden -/
theorem Rel.less (r : Rel C ow' mu σ H S) (s : ∀ b ∈ ow, b ∈ ow') (m : ∀ b ∈ mu, b ∈ ow) (pa : C.pa ∈ ow) (o0 : ∀ b ∈ C.ow0, b ∈ ow) : Rel C ow mu σ H S where
  sub := m
  len := r.len
  paH := pa
  base := r.base
  fresh := r.fresh
  gro := ⟨o0, fun b h => r.gro.2 b (s b h)⟩
  m0 := r.m0
  trk := fun b h => r.trk b (s b h)
  tab := r.tab
  cells := fun i c e => by
    obtain ⟨v, h1, h2⟩ := r.cells i c e
    refine ⟨v, h1, ?_⟩
    have hs : Sub (hid ow' H) (hid ow H) := hid_anti s
    cases c with
    | w x => cases x with
      | d x => exact Rp.mono hs h2
      | pen => exact h2
      | exc c l => obtain ⟨a, e, q⟩ := h2; exact ⟨a, e, excV_mono hs q⟩
      | xv y => exact xv_mono hs h2
      | new _ => exact h2
      | own _ => exact h2
    | lst ds => obtain ⟨a, vs, e, h3, h4, h5, h6⟩ := h2; exact ⟨a, vs, e, h3, h4, h5, h6.mono hs⟩
  inj := r.inj
  pen := fun π e => by
    obtain ⟨h1, l, h2, h3⟩ := r.pen π e
    exact ⟨h1, l, h2, hid_anti s _ _ h3⟩
/-- the heap grows, the state as it was -/
theorem Rel.grow (r : Rel C ow mu σ H S) (p : Sub H H') (g : Grow H ow ow') (t : Trk ow' H') : Rel C ow' mu σ H' S where
  len := r.len
  paH := g.1 _ r.paH
  base := r.base.trans (Pres.of p)
  fresh := r.fresh
  gro := r.gro.trans r.base r.m0 g
  m0 := r.m0
  sub := fun b h => g.1 b (r.sub b h)
  trk := t
  tab := r.tab.ext p
  cells := fun i c e => by
    obtain ⟨v, h1, h2⟩ := r.cells i c e
    refine ⟨v, h1, ?_⟩
    have hs : Sub (hid ow H) (hid ow' H') := hid_grow g r.sub (Pres.of p)
    cases c with
    | w x => cases x with
      | d x => exact Rp.mono hs h2
      | pen => exact h2
      | exc c l => obtain ⟨a, e, q⟩ := h2; exact ⟨a, e, excV_mono hs q⟩
      | xv y => exact xv_mono hs h2
      | new _ => exact h2
      | own _ => exact h2
    | lst ds => obtain ⟨a, vs, e, h3, h4, h5, h6⟩ := h2; exact ⟨a, vs, e, h3, h4, p _ _ h5, h6.mono hs⟩
  inj := r.inj
  pen := fun π e => by
    obtain ⟨h1, l, h2, h3⟩ := r.pen π e
    exact ⟨h1, l, p _ _ h2, hid_grow g r.sub (Pres.of p) _ _ h3⟩

/-- an expression leaves the slots as they are -/
structure Shp (S S' : Sx) : Prop where
  r : S'.rho = S.rho
  p : S.pen.isSome = S'.pen.isSome
theorem Shp.refl (S : Sx) : Shp S S := ⟨rfl, rfl⟩
theorem Shp.trans {A B D : Sx} (x : Shp A B) (y : Shp B D) : Shp A D := ⟨y.r.trans x.r, x.p.trans y.p⟩
/-- a value stays what it is while the rest goes on -/
theorem WOk.later (h : WOk C ow mu σ H S v w) (m : ∀ b ∈ mu, b ∈ ow) (g : Grow H ow ow') (p : Pres mu H H') (s : Shp S S') : WOk C ow' mu σ H' S' v w := by
  have hs : Sub (hid ow H) (hid ow' H') := hid_grow g m p
  cases w with
  | d x => exact Rp.mono hs h
  | new ds => obtain ⟨q, vs, e, h1, h2, h3, h4⟩ := h; exact ⟨q, vs, e, g.1 _ h1, h2, p _ _ h2 (by intro _ z; cases z) h3, h4.mono hs⟩
  | own i => obtain ⟨h1, ds, h2⟩ := h; exact ⟨h1, ds, by rw [s.r]; exact h2⟩
  | pen => exact h
  | exc c l => obtain ⟨a, e, q⟩ := h; exact ⟨a, e, excV_mono hs q⟩
  | xv y => exact xv_mono hs h
/-- a list, whoever holds it -/
def lview (S : Sx) : W → Option (List PyData)
  | .d (.list ds) => some ds
  | .new ds => some ds
  | .own i => match S.rho[i]? with
    | some (some (.lst ds)) => some ds
    | _ => none
  | _ => none
def dview (S : Sx) : W → Option PyData
  | .d x => some x
  | .new ds => some (.list ds)
  | .own i => match S.rho[i]? with
    | some (some (.lst ds)) => some (.list ds)
    | _ => none
  | _ => none
theorem lview_ok {ds : List PyData} (r : Rel C ow mu σ H S) (h : WOk C ow mu σ H S v w) (e : lview S w = some ds) : ∃ a vs, v = .ref a ∧ H a = some (.lst vs) ∧ RpAll C.K (hid ow H) vs ds := by
  cases w with
  | d x =>
    cases x with
    | list es =>
      obtain rfl : es = ds := Option.some.inj e
      obtain ⟨a, xs, e1, h1, h2⟩ := Rp.lst_inv h
      exact ⟨a, xs, e1, hid_sub _ _ h1, h2⟩
    | _ => cases e
  | new es =>
    obtain rfl : es = ds := Option.some.inj e
    obtain ⟨q, vs, e, _, _, h3, h4⟩ := h
    exact ⟨q, vs, e, h3, h4⟩
  | own i =>
    obtain ⟨h1, es, h2⟩ := h
    have e' : es = ds := by
      simp only [lview, h2] at e
      exact Option.some.inj e
    subst e'
    obtain ⟨v', q1, a, vs, q2, _, _, q3, q4⟩ := r.cells i _ h2
    rw [h1] at q1
    cases q1
    exact ⟨a, vs, q2, q3, q4⟩
  | pen => cases e
  | exc _ _ => cases e
  | xv _ => cases e
theorem dview_ok {x : PyData} (r : Rel C ow mu σ H S) (h : WOk C ow mu σ H S v w) (e : dview S w = some x) : Rp C.K H v x := by
  cases w with
  | d y =>
    obtain rfl : y = x := Option.some.inj e
    exact Rp.mono hid_sub h
  | new es =>
    obtain rfl : PyData.list es = x := Option.some.inj e
    obtain ⟨q, vs, rfl, _, _, h3, h4⟩ := h
    exact .lst h3 (h4.mono hid_sub)
  | own i =>
    have h0 := h
    obtain ⟨h1, es, h2⟩ := h
    have e' : PyData.list es = x := by
      simp only [dview, h2] at e
      exact Option.some.inj e
    subst e'
    obtain ⟨a, vs, rfl, q1, q2⟩ := lview_ok (ds := es) r h0 (by simp only [lview, h2])
    exact .lst q1 (q2.mono hid_sub)
  | pen => cases e
  | exc _ _ => cases e
  | xv _ => cases e
end

end Vf

set_option Elab.async false
set_option linter.all false
set_option maxRecDepth 100000
set_option maxHeartbeats 1000000
/-! Vf1: results, judgements, the rules for expressions and tests. -/
namespace Vf
open PySem PySem.Spec PyProof.Rows L2

theorem _root_.L2.PE.weak {X : Cx} {e : Expr} {t t' : TE} (h : PE X e t) (w : ∀ σ H Q, t' σ H Q → t σ H Q) : PE X e t' := ⟨fun pins s σ H Q I q => h.run pins s σ H Q I (w _ _ _ q)⟩
theorem _root_.L2.PA.weak {X : Cx} {e : List Expr} {t t' : TA} (h : PA X e t) (w : ∀ σ H Q, t' σ H Q → t σ H Q) : PA X e t' := ⟨fun pos pins s σ H Q I q => h.run pos pins s σ H Q I (w _ _ _ q)⟩
theorem _root_.L2.PS.weak {X : Cx} {e : Stmt} {t t' : TS} (h : PS X e t) (w : ∀ D σ H, t' D σ H → t D σ H) : PS X e t' := ⟨fun pins s σ H D I q => h.run pins s σ H D I (w _ _ _ q)⟩
theorem _root_.L2.PSs.weak {X : Cx} {e : List Stmt} {t t' : TS} (h : PSs X e t) (w : ∀ D σ H, t' D σ H → t D σ H) : PSs X e t' := ⟨fun pins s σ H D I q => h.run pins s σ H D I (w _ _ _ q)⟩
theorem _root_.L2.PT.weak {X : Cx} {e : Expr} {t t' : TT} (h : PT X e t) (w : ∀ σ H Q, t' σ H Q → t σ H Q) : PT X e t' := ⟨fun pins s σ H Q I q => h.run pins s σ H Q I (w _ _ _ q)⟩

/-! ### results -/
inductive RE (α : Type) where
  | ok (a : α) (S : Sx)
  | ex (c : Nat) (l : Option Int) (S : Sx)
  | bad
def RE.bind {α β : Type} (r : RE α) (f : α → Sx → RE β) : RE β := match r with
  | .ok a S => f a S
  | .ex c l S => .ex c l S
  | .bad => .bad
def RE.of {α : Type} (o : Option α) (S : Sx) : RE α := match o with
  | some a => .ok a S
  | none => .bad
abbrev ME := Sx → RE W
abbrev MA := Sx → RE (List W)
abbrev MT := Sx → RE Bool
inductive RS where
  | nx (S : Sx)
  | rt (w : W) (S : Sx)
  | bk (S : Sx)
  | ct (S : Sx)
  | ex (c : Nat) (l : Option Int) (S : Sx)
  | bad
abbrev MS := Sx → RS
/-- an exception's class, its own dict -/
def XOk (C : Cb) (H : Hp) (c : Nat) (l : Option Int) (cls : Value) (d : Option Addr) : Prop := cls = .ref (C.cls c) ∧ match l with
  | none => d = none
  | some n => ∃ dd, d = some dd ∧ H dd = some (.xd [(("line" : Str), .int n)])
/-- a new list is none of the hidden ones -/
def WNew (ow : List Addr) (v : V) (w : W) : Prop := ∀ ds, w = .new ds → ∀ p, v = .ref p → p ∉ ow
theorem WNew.anti {ow ow' : List Addr} {v : V} {w : W} (h : WNew ow' v w) (s : ∀ b ∈ ow, b ∈ ow') : WNew ow v w := fun ds e p q z => h ds e p q (s p z)
theorem WNew.d {ow : List Addr} {v : V} {x : PyData} : WNew ow v (.d x) := fun _ e => nomatch e
inductive WAll (C : Cn) (ow0 ow mu : List Addr) (σ : L2.St) (H : Hp) (S : Sx) : List V → List W → Prop
  | nil : WAll C ow0 ow mu σ H S [] []
  | cons {v : V} {w : W} {vs : List V} {ws : List W} : WOk C ow mu σ H S v w → WNew ow0 v w → WAll C ow0 ow mu σ H S vs ws → WAll C ow0 ow mu σ H S (v :: vs) (w :: ws)
theorem WAll.length {C : Cn} {ow0 ow mu : List Addr} {σ : L2.St} {H : Hp} {S : Sx} : ∀ {vs : List V} {ws : List W}, WAll C ow0 ow mu σ H S vs ws → vs.length = ws.length
  | _, _, .nil => rfl
  | _, _, .cons _ _ r => by simp [WAll.length r]
theorem WAll.anti {C : Cn} {ow0 ow1 ow mu : List Addr} {σ : L2.St} {H : Hp} {S : Sx} (s : ∀ b ∈ ow0, b ∈ ow1) : ∀ {vs : List V} {ws : List W}, WAll C ow1 ow mu σ H S vs ws → WAll C ow0 ow mu σ H S vs ws
  | _, _, .nil => .nil
  | _, _, .cons h n r => .cons h (n.anti s) (WAll.anti s r)
/-- what a result says: of a value, of values, of a truth -/
class Says (α : Type) (β : outParam Type) where
  ok : Cn → List Addr → List Addr → List Addr → L2.St → Hp → Sx → β → α → Prop
  anti : ∀ {C ow0 ow1 ow mu σ H S b a}, (∀ x ∈ ow0, x ∈ ow1) → ok C ow1 ow mu σ H S b a → ok C ow0 ow mu σ H S b a
instance : Says W V where
  ok := fun C ow0 ow mu σ H S v w => WOk C ow mu σ H S v w ∧ WNew ow0 v w
  anti := fun s h => ⟨h.1, h.2.anti s⟩
instance : Says (List W) (List V) where
  ok := fun C ow0 ow mu σ H S v w => WAll C ow0 ow mu σ H S v w
  anti := fun s h => WAll.anti s h
instance : Says Bool Bool where
  ok := fun _ _ _ _ _ _ _ b a => b = a
  anti := fun _ h => h
def Post {α β : Type} [Says α β] (C : Cn) (Wx : WX) (ow mu : List Addr) (σ : L2.St) (H : Hp) (r : RE α) (Q : β → Hp → Prop) : Prop := match r with
  | .ok a S' => ∀ b H' ow', Grow H ow ow' → Pres mu H H' → Rel C ow' mu σ H' S' → Says.ok C ow ow' mu σ H' S' b a → Q b H'
  | .ex c l S' => ∀ H' ow' cls d, Grow H ow ow' → Pres mu H H' → Rel C ow' mu σ H' S' → XOk C (hid ow' H') c l cls d → Wx cls d σ H'
  | .bad => False
def tM {α β : Type} [Says α β] (C : Cn) (Wx : WX) (m : Sx → RE α) : L2.St → Hp → (β → Hp → Prop) → Prop := fun σ H Q => ∃ ow mu S, Rel C ow mu σ H S ∧ Post C Wx ow mu σ H (m S) Q
section
variable {α β γ δ : Type} [Says α β] [Says γ δ] {C : Cn} {Wx : WX} {ow ow1 mu : List Addr} {σ : L2.St} {H H1 : Hp} {S S1 : Sx} {r : RE α} {Q : β → Hp → Prop}
theorem Post.shift (g : Grow H ow ow1) (p : Pres mu H H1) (s : ∀ b ∈ mu, b ∈ ow) (h : Post C Wx ow mu σ H r Q) : Post C Wx ow1 mu σ H1 r Q := by
  cases r with
  | ok a S' => exact fun b H' ow' g' p' R k => h b H' ow' (g.trans p s g') (p.trans p') R (Says.anti g.1 k)
  | ex c l S' => exact fun H' ow' cls d g' p' R k => h H' ow' cls d (g.trans p s g') (p.trans p') R k
  | bad => exact h
/-- first r, then f -/
theorem Post.bind {f : α → Sx → RE γ} {Q : δ → Hp → Prop} {Z : β → Hp → Prop} (s : ∀ b ∈ mu, b ∈ ow) (h : Post C Wx ow mu σ H (r.bind f) Q)
    (k : ∀ a S1 b H1 ow1, r = .ok a S1 → Grow H ow ow1 → Pres mu H H1 → Rel C ow1 mu σ H1 S1 → Says.ok C ow ow1 mu σ H1 S1 b a → Post C Wx ow1 mu σ H1 (f a S1) Q → Z b H1) : Post C Wx ow mu σ H r Z := by
  cases r with
  | ok a S1 => exact fun b H1 ow1 g p R q => k a S1 b H1 ow1 rfl g p R q (Post.shift g p s (show Post C Wx ow mu σ H (f a S1) Q from h))
  | ex c l S1 => exact h
  | bad => exact h
/-- .. what is wanted told of an earlier place -/
theorem Post.bind0 {ow0 : List Addr} {H0 : Hp} {f : α → Sx → RE γ} {Q : δ → Hp → Prop} {Z : β → Hp → Prop} (g0 : Grow H0 ow0 ow) (p0 : Pres mu H0 H) (s0 : ∀ b ∈ mu, b ∈ ow0) (h : Post C Wx ow0 mu σ H0 (r.bind f) Q)
    (k : ∀ a S1 b H1 ow1, r = .ok a S1 → Grow H ow ow1 → Pres mu H H1 → Rel C ow1 mu σ H1 S1 → Says.ok C ow ow1 mu σ H1 S1 b a → Post C Wx ow0 mu σ H0 (f a S1) Q → Z b H1) : Post C Wx ow mu σ H r Z := by
  cases r with
  | ok a S1 => exact fun b H1 ow1 g p R q => k a S1 b H1 ow1 rfl g p R q h
  | ex c l S1 => exact fun H' ow' cls d g p R x => (show Post C Wx ow0 mu σ H0 (.ex c l S1 : RE γ) Q from h) H' ow' cls d (g0.trans p0 s0 g) (p0.trans p) R x
  | bad => exact h
theorem Post.now {a : α} {b : β} (h : Post C Wx ow mu σ H (.ok a S) Q) (R : Rel C ow mu σ H S) (k : Says.ok C ow ow mu σ H S b a) : Q b H := h b H ow (Grow.refl H ow) (Pres.refl H) R k
end
/-! ### judgements -/
structure JE (C : Cn) (Wx : WX) (X : Cx) (e : Expr) (m : ME) : Prop where
  pe : PE X e (tM C Wx m)
  shp : ∀ S w S', m S = .ok w S' → Shp S S'
structure JA (C : Cn) (Wx : WX) (X : Cx) (es : List Expr) (m : MA) : Prop where
  pa : PA X es (tM C Wx m)
  shp : ∀ S w S', m S = .ok w S' → Shp S S'
structure JT (C : Cn) (Wx : WX) (X : Cx) (e : Expr) (m : MT) : Prop where
  pt : PT X e (tM C Wx m)
  shp : ∀ S w S', m S = .ok w S' → Shp S S'
structure JW (C : Cn) (Wx : WX) (X : Cx) (e : Expr) (m : MT) : Prop where
  pw : PW X e (tM C Wx m)
  shp : ∀ S w S', m S = .ok w S' → Shp S S'
def ShpM {α : Type} (m : Sx → RE α) : Prop := ∀ S w S', m S = .ok w S' → Shp S S'
theorem shp_bind {α β : Type} {ma : Sx → RE α} {f : α → Sx → RE β} (ha : ShpM ma) (hf : ∀ a, ShpM (f a)) : ShpM (fun S => (ma S).bind f) := fun S w S' e => by
  replace e : (ma S).bind f = .ok w S' := e
  cases e1 : ma S with
  | ok x S1 => rw [e1] at e; exact (ha _ _ _ e1).trans (hf x S1 w S' e)
  | ex _ _ _ => rw [e1] at e; cases e
  | bad => rw [e1] at e; cases e
theorem shp_of {α : Type} {o : Sx → Option α} : ShpM (fun S => RE.of (o S) S) := fun S w S' e => by
  replace e : RE.of (o S) S = .ok w S' := e
  cases e1 : o S with
  | some a => rw [e1] at e; cases e; exact Shp.refl S
  | none => rw [e1] at e; cases e
theorem shp_ok {α : Type} {a : Sx → α} : ShpM (fun S => .ok (a S) S) := fun S w S' e => by cases e; exact Shp.refl S

/-! ### operations on values -/
/-- what an operation hands on: a value at a grown heap -/
def Res (C : Cn) (ow mu : List Addr) (σ : L2.St) (H : Hp) (S : Sx) (w : W) (Q : VK) : Prop := ∀ v H' ow', Grow H ow ow' → Sub H H' → Trk ow' H' → WOk C ow' mu σ H' S v w → WNew ow v w → Q v H'
section
variable {C : Cn} {Wx : WX} {ow mu : List Addr} {σ : L2.St} {H : Hp} {S : Sx} {Q : VK}
theorem Res.of {w : W} (h : Post C Wx ow mu σ H (.ok w S) Q) (R : Rel C ow mu σ H S) : Res C ow mu σ H S w Q := fun v H' ow' g s t k n => h v H' ow' g (Pres.of s) (R.grow s g t) ⟨k, n⟩
theorem Res.flat {v : V} {x : PyData} (q : Res C ow mu σ H S (.d x) Q) (r : Rel C ow mu σ H S) (h : Rp C.K (hid ow H) v x) : Q v H := q v H ow (Grow.refl H ow) (Sub.refl H) r.trk h WNew.d
theorem new_out (r : Rel C ow mu σ H S) {p : Addr} (hp : H p = none) : p ∉ ow := fun z => by obtain ⟨o, e, _⟩ := r.trk p z; rw [hp] at e; cases e
theorem grow_cons {p : Addr} (hp : H p = none) : Grow H ow (p :: ow) := ⟨fun b h => List.mem_cons_of_mem _ h, fun b h => (List.mem_cons.mp h).elim (fun e => .inr (e ▸ Nil.of hp)) .inl⟩
theorem grow_consN {p : Addr} (hp : Nil H p) : Grow H ow (p :: ow) := ⟨fun b h => List.mem_cons_of_mem _ h, fun b h => (List.mem_cons.mp h).elim (fun e => .inr (e ▸ hp)) .inl⟩
theorem trk_upd {p : Addr} {o : HO} (r : Rel C ow mu σ H S) (n : NotT o := by intro _ z; cases z) : Trk ow (upd H p o) := fun b h => by
  by_cases e : b = p
  · exact ⟨o, by rw [e, upd_same], n⟩
  · obtain ⟨u, z, t⟩ := r.trk b h
    exact ⟨u, by rw [upd_ne e]; exact z, t⟩
theorem Res.newL {ds : List PyData} {vs : List V} {p : Addr} (q : Res C ow mu σ H S (.new ds) Q) (r : Rel C ow mu σ H S) (h : RpAll C.K (hid ow H) vs ds) (hp : H p = none) : Q (.ref p) (upd H p (.lst vs)) := by
  have np := new_out r hp
  have g : Grow H ow (p :: ow) := grow_cons hp
  refine q (.ref p) _ (p :: ow) g (sub_upd hp) (fun b h => ?_) ⟨p, vs, rfl, List.mem_cons_self, fun z => np (r.sub p z), upd_same, h.mono (hid_grow g r.sub (Pres.of (sub_upd hp)))⟩ (fun _ _ p' e => by cases e; exact np)
  rcases List.mem_cons.mp h with e | e
  · exact ⟨_, by rw [e, upd_same], by intro _ z; cases z⟩
  · exact trk_upd r (by intro _ z; cases z) b e
theorem Res.newT {ds : List PyData} {vs : List V} {p : Addr} (q : Res C ow mu σ H S (.d (.tuple ds)) Q) (r : Rel C ow mu σ H S) (h : RpAll C.K (hid ow H) vs ds) (hp : H p = none) : Q (.ref p) (upd H p (.tup vs)) := by
  have np := new_out r hp
  exact q (.ref p) _ ow (Grow.refl H ow) (sub_upd hp) (trk_upd r) (.tup (Or.inl (Or.inl (hid_at np upd_same))) (h.mono (hid_pres r.sub (Pres.of (sub_upd hp))))) WNew.d
end
def mBin (g : Sx → W → W → Option W) (ma mb : ME) : ME := fun S => (ma S).bind fun a S1 => (mb S1).bind fun b S2 => RE.of (g S2 a b) S2
def mUn (g : Sx → W → Option W) (ma : ME) : ME := fun S => (ma S).bind fun a S1 => RE.of (g S1 a) S1
/-- an operation on two values, on one -/
def Op2 (C : Cn) (r : R2) (g : Sx → W → W → Option W) : Prop := ∀ ow mu σ H S v1 w1 v2 w2 w Q, Rel C ow mu σ H S → WOk C ow mu σ H S v1 w1 → WOk C ow mu σ H S v2 w2 → g S w1 w2 = some w → Res C ow mu σ H S w Q → r v1 v2 H Q
def Op1 (C : Cn) (r : V → Hp → VK → Prop) (g : Sx → W → Option W) : Prop := ∀ ow mu σ H S v1 w1 w Q, Rel C ow mu σ H S → WOk C ow mu σ H S v1 w1 → g S w1 = some w → Res C ow mu σ H S w Q → r v1 H Q
section
variable {C : Cn} {Wx : WX} {X : Cx} {a b : Expr} {ma mb : ME} {g : Sx → W → W → Option W} {g1 : Sx → W → Option W} {r : R2} {r1 : V → Hp → VK → Prop} {pos : Pos}
theorem shp_bin (ha : ShpM ma) (hb : ShpM mb) : ShpM (mBin g ma mb) := shp_bind ha fun _ => shp_bind hb fun _ => shp_of
theorem shp_un (ha : ShpM ma) : ShpM (mUn g1 ma) := shp_bind ha fun _ => shp_of
theorem Post.of {o : Option W} {ow mu : List Addr} {σ : L2.St} {H : Hp} {S : Sx} {Q : VK} (h : Post C Wx ow mu σ H (RE.of o S) Q) : ∃ w, o = some w ∧ Post C Wx ow mu σ H (.ok w S) Q := by
  cases o with
  | some w => exact ⟨w, rfl, h⟩
  | none => exact h.elim
theorem tOp_of (ho : Op2 C r g) (sb : ShpM mb) : ∀ σ H Q, tM C Wx (mBin g ma mb) σ H Q → tOp r (tM C Wx ma) (tM C Wx mb) σ H Q := by
  rintro σ H Q ⟨ow, mu, S, R, h⟩
  refine ⟨ow, mu, S, R, Post.bind R.sub h fun x S1 v1 H1 ow1 e1 g1 p1 R1 k1 h1 => ⟨ow1, mu, S1, R1, Post.bind R1.sub h1 fun y S2 v2 H2 ow2 e2 g2 p2 R2 k2 h2 => ?_⟩⟩
  obtain ⟨z, e3, h3⟩ := Post.of h2
  exact ho ow2 mu σ H2 S2 v1 x v2 y z Q R2 (k1.1.later R1.sub g2 p2 (sb _ _ _ e2)) k2.1 e3 (Res.of h3 R2)
theorem tUn_of (ho : Op1 C r1 g1) : ∀ σ H Q, tM C Wx (mUn g1 ma) σ H Q → tUn r1 (tM C Wx ma) σ H Q := by
  rintro σ H Q ⟨ow, mu, S, R, h⟩
  refine ⟨ow, mu, S, R, Post.bind R.sub h fun x S1 v1 H1 ow1 e1 g1 p1 R1 k1 h1 => ?_⟩
  obtain ⟨z, e3, h3⟩ := Post.of h1
  exact ho ow1 mu σ H1 S1 v1 x z Q R1 k1.1 e3 (Res.of h3 R1)
theorem je_op {op : Operator} (hr : OpR X (binaryOp op) r) (ho : Op2 C r g) (ha : JE C Wx X a ma) (hb : JE C Wx X b mb) : JE C Wx X (.BinOp a op b pos) (mBin g ma mb) :=
  ⟨(pe_op hr ha.pe hb.pe).weak (tOp_of ho hb.shp), shp_bin ha.shp hb.shp⟩
theorem je_cmp {op : CmpOp} (hr : OpR X (compareOp op) r) (ho : Op2 C r g) (ha : JE C Wx X a ma) (hb : JE C Wx X b mb) (hm : behindInMarks op b = false := by rfl) : JE C Wx X (.Compare a [op] [b] pos) (mBin g ma mb) :=
  ⟨(pe_cmpR hr ha.pe hb.pe hm).weak (tOp_of ho hb.shp), shp_bin ha.shp hb.shp⟩
theorem je_un {op : UnaryOp} (hr : UnR X (unaryOp op) r1) (ho : Op1 C r1 g1) (ha : JE C Wx X a ma) : JE C Wx X (.UnaryOp op a pos) (mUn g1 ma) := ⟨(pe_un hr ha.pe).weak (tUn_of ho), shp_un ha.shp⟩
theorem je_ix (hr : IxR X r) (ho : Op2 C r g) (ha : JE C Wx X a ma) (hb : JE C Wx X b mb) (hs : PlainIx b) : JE C Wx X (.Subscript a b pos) (mBin g ma mb) :=
  ⟨(pe_ix hr ha.pe hb.pe hs).weak (tOp_of ho hb.shp), shp_bin ha.shp hb.shp⟩

/-! names, constants -/
def vget (S : Sx) (i : Nat) : Option W := match S.rho[i]? with
  | some (some (.w x)) => some x
  | some (some (.lst _)) => some (.own i)
  | _ => none
def mVar (i : Nat) : ME := fun S => RE.of (vget S i) S
theorem je_var {i : Nat} (h : PE X a (tVar i)) : JE C Wx X a (mVar i) where
  pe := h.weak fun σ H Q ⟨ow, mu, S, R, h⟩ => by
    obtain ⟨w, e, h⟩ := Post.of h
    unfold vget at e
    split at e
    · rename_i x q
      cases e
      obtain ⟨v, h1, h2⟩ := R.cells i _ q
      refine ⟨v, h1, h.now R ⟨?_, ?_⟩⟩
      · cases w with
        | d x => exact h2
        | pen => exact h2
        | exc c l => exact h2
        | xv y => exact h2
        | new _ => exact h2.elim
        | own _ => exact h2.elim
      · intro ds e'
        subst e'
        exact h2.elim
    · rename_i ds q
      cases e
      obtain ⟨v, h1, h2⟩ := R.cells i _ q
      exact ⟨v, h1, h.now R ⟨⟨h1, ds, q⟩, fun _ e' => nomatch e'⟩⟩
    · cases e
  shp := shp_of
def mC (x : PyData) : ME := fun S => .ok (.d x) S
def flatD : PyData → Option V
  | .none => some .non
  | .bool b => some (.bl b)
  | .int i => some (.int i)
  | .str x => some (.str x)
  | _ => none
theorem flatD_rp {K : PySem.W.Frag} {G : Hp} {x : PyData} {v : V} (h : flatD x = some v) : Rp K G v x := by
  cases x <;> cases h
  · exact .non
  · exact .bl _
  · exact .int _
  · exact .str _
theorem je_c {x : PyData} {v : V} (h : PE X a (tC v)) (e : flatD x = some v := by rfl) : JE C Wx X a (mC x) where
  pe := h.weak fun σ H Q ⟨ow, mu, S, R, h⟩ => h.now R ⟨flatD_rp e, WNew.d⟩
  shp := shp_ok

/-! tests -/
def wb : W → Option Bool
  | .d (.bool b) => some b
  | _ => none
def mTest (m : ME) : MT := fun S => (m S).bind fun a S1 => RE.of (wb a) S1
theorem Post.ofG {α β : Type} [Says α β] {o : Option α} {ow mu : List Addr} {σ : L2.St} {H : Hp} {S : Sx} {Q : β → Hp → Prop} (h : Post C Wx ow mu σ H (RE.of o S) Q) : ∃ w, o = some w ∧ Post C Wx ow mu σ H (.ok w S) Q := by
  cases o with
  | some w => exact ⟨w, rfl, h⟩
  | none => exact h.elim
theorem wb_ok {ow mu : List Addr} {σ : L2.St} {H : Hp} {S : Sx} {v : V} {w : W} {b : Bool} (k : WOk C ow mu σ H S v w) (e : wb w = some b) : v = .bl b := by
  cases w with
  | d x =>
    cases x with
    | bool c => cases e; exact Rp.bl_inv k
    | _ => cases e
  | _ => cases e
theorem tTest_of : ∀ σ H Q, tM C Wx (mTest ma) σ H Q → tTest (tM C Wx ma) σ H Q := by
  rintro σ H Q ⟨ow, mu, S, R, h⟩
  refine ⟨ow, mu, S, R, Post.bind R.sub h fun x S1 v1 H1 ow1 e1 g1 p1 R1 k1 h1 => ?_⟩
  obtain ⟨b, e, h2⟩ := Post.ofG h1
  exact ⟨b, wb_ok k1.1 e, h2.now R1 rfl⟩
theorem shp_test (ha : ShpM ma) : ShpM (mTest ma) := shp_bind ha fun _ => shp_of
theorem jt_cmp {op : CmpOp} (hr : OpR X (compareOp op) r) (ho : Op2 C r g) (ha : JE C Wx X a ma) (hb : JE C Wx X b mb) (hm : behindInMarks op b = false := by rfl) : JT C Wx X (.Compare a [op] [b] pos) (mTest (mBin g ma mb)) :=
  ⟨(pt_cmpR hr ha.pe hb.pe hm).weak fun σ H Q h => by
    obtain ⟨ow, mu, S, R, h⟩ := h
    refine tOp_of ho hb.shp σ H _ ⟨ow, mu, S, R, Post.bind R.sub h fun x S1 v1 H1 ow1 e1 g1 p1 R1 k1 h1 => ?_⟩
    obtain ⟨b, e, h2⟩ := Post.ofG h1
    exact ⟨b, wb_ok k1.1 e, h2.now R1 rfl⟩, shp_test (shp_bin ha.shp hb.shp)⟩
theorem jt_val (ha : JE C Wx X a ma) (he : ∀ whole, isTrue a X.env whole = (do let v ← whole; standAt a.pos; holding [v] (truthy v)) := by intro _; rfl) : JT C Wx X a (mTest ma) :=
  ⟨(pt_val ha.pe he).weak tTest_of, shp_test ha.shp⟩
section
variable {mt mu_ : MT} {rest : List Expr}
def mAndT (ma mb : MT) : MT := fun S => (ma S).bind fun b S1 => match b with
  | true => mb S1
  | false => .ok false S1
def mOrT (ma mb : MT) : MT := fun S => (ma S).bind fun b S1 => match b with
  | true => .ok true S1
  | false => mb S1
def mNotT (ma : MT) : MT := fun S => (ma S).bind fun b S1 => .ok (!b) S1
theorem shp_and {m1 m2 : MT} (h1 : ShpM m1) (h2 : ShpM m2) : ShpM (mAndT m1 m2) := shp_bind h1 fun b => by cases b; exact shp_ok; exact h2
theorem shp_or {m1 m2 : MT} (h1 : ShpM m1) (h2 : ShpM m2) : ShpM (mOrT m1 m2) := shp_bind h1 fun b => by cases b; exact h2; exact shp_ok
theorem JW.jt {m : MT} (h : JW C Wx X a m) : JT C Wx X a m := ⟨h.pw.pt, h.shp⟩
theorem PW_weak {e : Expr} {t t' : TT} (h : PW X e t) (w : ∀ σ H Q, t' σ H Q → t σ H Q) : PW X e t' := ⟨fun wh pins s σ H Q I q => h.run wh pins s σ H Q I (w _ _ _ q)⟩
theorem jw_and1 {m : MT} (h : JT C Wx X a m) : JW C Wx X (.BoolOp .And [a] pos) m := ⟨pw_and1 h.pt, h.shp⟩
theorem jw_or1 {m : MT} (h : JT C Wx X a m) : JW C Wx X (.BoolOp .Or [a] pos) m := ⟨pw_or1 h.pt, h.shp⟩
theorem jw_and {m1 m2 : MT} (h1 : JT C Wx X a m1) (h2 : JW C Wx X (.BoolOp .And (b :: rest) pos) m2) : JW C Wx X (.BoolOp .And (a :: b :: rest) pos) (mAndT m1 m2) :=
  ⟨PW_weak (pw_and h1.pt h2.pw) fun σ H Q ⟨ow, mu, S, R, h⟩ => ⟨ow, mu, S, R, Post.bind R.sub h fun x S1 v1 H1 ow1 e1 g1 p1 R1 k1 h1 => by
    cases (show v1 = x from k1)
    cases x with
    | true => exact iteT ⟨ow1, mu, S1, R1, h1⟩
    | false => exact iteF (Post.now (a := false) h1 R1 rfl)⟩, shp_and h1.shp h2.shp⟩
theorem jw_or {m1 m2 : MT} (h1 : JT C Wx X a m1) (h2 : JW C Wx X (.BoolOp .Or (b :: rest) pos) m2) : JW C Wx X (.BoolOp .Or (a :: b :: rest) pos) (mOrT m1 m2) :=
  ⟨PW_weak (pw_or h1.pt h2.pw) fun σ H Q ⟨ow, mu, S, R, h⟩ => ⟨ow, mu, S, R, Post.bind R.sub h fun x S1 v1 H1 ow1 e1 g1 p1 R1 k1 h1 => by
    cases (show v1 = x from k1)
    cases x with
    | true => exact iteT (Post.now (a := true) h1 R1 rfl)
    | false => exact iteF ⟨ow1, mu, S1, R1, h1⟩⟩, shp_or h1.shp h2.shp⟩
theorem jt_not {m1 : MT} (h1 : JT C Wx X a m1) : JT C Wx X (.UnaryOp .Not a pos) (mNotT m1) :=
  ⟨(pt_not h1.pt).weak fun σ H Q ⟨ow, mu, S, R, h⟩ => ⟨ow, mu, S, R, Post.bind R.sub h fun x S1 v1 H1 ow1 e1 g1 p1 R1 k1 h1 => by
    cases (show v1 = x from k1)
    exact Post.now h1 R1 rfl⟩, shp_bind h1.shp fun _ => shp_ok⟩
/-! and, or, not as values: all but the last are truths -/
def mAndV (ma mb : ME) : ME := fun S => (ma S).bind fun a S1 => match wb a with
  | some true => mb S1
  | some false => .ok (.d (.bool false)) S1
  | none => .bad
def mOrV (ma mb : ME) : ME := fun S => (ma S).bind fun a S1 => match wb a with
  | some true => .ok (.d (.bool true)) S1
  | some false => mb S1
  | none => .bad
def mNotV (ma : ME) : ME := mUn (fun _ a => (wb a).map fun b => .d (.bool (!b))) ma
theorem je_and (ha : JE C Wx X a ma) (hb : JE C Wx X (.BoolOp .And (b :: rest) pos) mb) : JE C Wx X (.BoolOp .And (a :: b :: rest) pos) (mAndV ma mb) :=
  ⟨(pe_and ha.pe hb.pe).weak fun σ H Q ⟨ow, mu, S, R, h⟩ => ⟨ow, mu, S, R, Post.bind R.sub h fun x S1 v1 H1 ow1 e1 g1 p1 R1 k1 h1 => by
    cases e : wb x with
    | none => rw [e] at h1; exact h1.elim
    | some c =>
      rw [e] at h1
      refine ⟨c, wb_ok k1.1 e, ?_⟩
      cases c with
      | true => exact iteT ⟨ow1, mu, S1, R1, h1⟩
      | false => exact iteF (Post.now (a := W.d (.bool false)) h1 R1 ⟨.bl false, WNew.d⟩)⟩,
   shp_bind ha.shp fun a => by
    cases wb a with
    | none => exact fun _ _ _ e => nomatch e
    | some c => cases c; exact shp_ok; exact hb.shp⟩
theorem je_or (ha : JE C Wx X a ma) (hb : JE C Wx X (.BoolOp .Or (b :: rest) pos) mb) : JE C Wx X (.BoolOp .Or (a :: b :: rest) pos) (mOrV ma mb) :=
  ⟨(pe_or ha.pe hb.pe).weak fun σ H Q ⟨ow, mu, S, R, h⟩ => ⟨ow, mu, S, R, Post.bind R.sub h fun x S1 v1 H1 ow1 e1 g1 p1 R1 k1 h1 => by
    cases e : wb x with
    | none => rw [e] at h1; exact h1.elim
    | some c =>
      rw [e] at h1
      refine ⟨c, wb_ok k1.1 e, ?_⟩
      cases c with
      | true => exact iteT (Post.now (a := W.d (.bool true)) h1 R1 ⟨.bl true, WNew.d⟩)
      | false => exact iteF ⟨ow1, mu, S1, R1, h1⟩⟩,
   shp_bind ha.shp fun a => by
    cases wb a with
    | none => exact fun _ _ _ e => nomatch e
    | some c => cases c; exact hb.shp; exact shp_ok⟩
theorem je_one {op : BoolOp} (ha : JE C Wx X a ma) : JE C Wx X (.BoolOp op [a] pos) ma := ⟨pe_one ha.pe, ha.shp⟩
theorem je_not (ha : JE C Wx X a ma) : JE C Wx X (.UnaryOp .Not a pos) (mNotV ma) :=
  ⟨(pe_not ha.pe).weak fun σ H Q ⟨ow, mu, S, R, h⟩ => ⟨ow, mu, S, R, Post.bind R.sub h fun x S1 v1 H1 ow1 e1 g1 p1 R1 k1 h1 => by
    obtain ⟨z, e3, h3⟩ := Post.of h1
    replace e3 : (wb x).map (fun b => W.d (.bool (!b))) = some z := e3
    cases e : wb x with
    | none => rw [e] at e3; cases e3
    | some c =>
      rw [e] at e3
      cases e3
      exact ⟨c, wb_ok k1.1 e, h3.now R1 ⟨.bl _, WNew.d⟩⟩⟩, shp_un ha.shp⟩
def mIf (mt : MT) (ma mb : ME) : ME := fun S => (mt S).bind fun b S1 => match b with
  | true => ma S1
  | false => mb S1
theorem je_if {c : Expr} {mc : MT} (hc : JT C Wx X c mc) (ha : JE C Wx X a ma) (hb : JE C Wx X b mb) : JE C Wx X (.IfExp c a b pos) (mIf mc ma mb) :=
  ⟨(pe_ifExp hc.pt ha.pe hb.pe).weak fun σ H Q ⟨ow, mu, S, R, h⟩ => ⟨ow, mu, S, R, Post.bind R.sub h fun x S1 v1 H1 ow1 e1 g1 p1 R1 k1 h1 => by
    cases (show v1 = x from k1)
    cases x with
    | true => exact iteT ⟨ow1, mu, S1, R1, h1⟩
    | false => exact iteF ⟨ow1, mu, S1, R1, h1⟩⟩, shp_bind hc.shp fun b => by cases b; exact hb.shp; exact ha.shp⟩
/-! a < b < c -/
def mChain (g g' : Sx → W → W → Option W) (ma mb mc : ME) : ME := fun S => (ma S).bind fun a S1 => (mb S1).bind fun b S2 => match (g S2 a b).bind wb with
  | some true => (mc S2).bind fun c S3 => RE.of (g' S3 b c) S3
  | some false => .ok (.d (.bool false)) S2
  | none => .bad
theorem je_chain {op op' : CmpOp} {r' : R2} {g' : Sx → W → W → Option W} {c : Expr} {mc : ME} (hr : OpR X (compareOp op) r) (hr' : OpR X (compareOp op') r') (ho : Op2 C r g) (ho' : Op2 C r' g') (ha : JE C Wx X a ma) (hb : JE C Wx X b mb) (hc : JE C Wx X c mc)
    (hm : lastMarks [op, op'] [b, c] = false := by with_unfolding_all rfl) : JE C Wx X (.Compare a [op, op'] [b, c] pos) (mChain g g' ma mb mc) :=
  ⟨(pe_chain hr hr' ha.pe hb.pe hc.pe hm).weak fun σ H Q ⟨ow, mu, S, R, h⟩ => ⟨ow, mu, S, R, Post.bind R.sub h fun x S1 v1 H1 ow1 e1 g1 p1 R1 k1 h1 => ⟨ow1, mu, S1, R1, Post.bind R1.sub h1 fun y S2 v2 H2 ow2 e2 g2 p2 R2 k2 h2 => by
    cases e : g S2 x y with
    | none => rw [e] at h2; exact h2.elim
    | some z =>
      rw [e] at h2
      dsimp only [Option.bind] at h2
      cases e' : wb z with
      | none => rw [e'] at h2; exact h2.elim
      | some k =>
        rw [e'] at h2
        refine ho ow2 mu σ H2 S2 v1 x v2 y z _ R2 (k1.1.later R1.sub g2 p2 (hb.shp _ _ _ e2)) k2.1 e fun v H3 ow3 g3 s3 t3 k3 n3 => ⟨k, wb_ok k3 e', ?_⟩
        have R3 := R2.grow s3 g3 t3
        have h3 := Post.shift g3 (Pres.of s3) R2.sub h2
        cases k with
        | true => exact iteT ⟨ow3, mu, S2, R3, Post.bind R3.sub h3 fun y' S4 v4 H4 ow4 e4 g4 p4 R4 k4 h4 => by
            obtain ⟨z', e5, h5⟩ := Post.of h4
            exact ho' ow4 mu σ H4 S4 v2 y v4 y' z' Q R4 ((k2.1.later R2.sub g3 (Pres.of s3) (Shp.refl _)).later R3.sub g4 p4 (hc.shp _ _ _ e4)) k4.1 e5 (Res.of h5 R4)⟩
        | false => exact iteF (Post.now (a := W.d (.bool false)) h3 R3 ⟨.bl false, WNew.d⟩)⟩⟩,
   shp_bind ha.shp fun a => shp_bind hb.shp fun b => fun S w S' e => by
    cases e1 : (g S a b).bind wb with
    | none => rw [e1] at e; cases e
    | some k =>
      rw [e1] at e
      cases k with
      | true => exact shp_bind hc.shp (fun _ => shp_of) S w S' e
      | false => cases e; exact Shp.refl S⟩
end
/-! lists of arguments -/
def mNil : MA := fun S => .ok [] S
def mCons (m : ME) (ms : MA) : MA := fun S => (m S).bind fun a S1 => (ms S1).bind fun as S2 => .ok (a :: as) S2
theorem ja_nil : JA C Wx X [] mNil := ⟨pa_nil.weak fun σ H Q ⟨ow, mu, S, R, h⟩ => Post.now (a := []) h R .nil, shp_ok⟩
theorem ja_cons {es : List Expr} {ms : MA} (h1 : JE C Wx X a ma) (h2 : JA C Wx X es ms) (hs : starEach (a :: es) X.env = (false, eval a X.env) :: starEach es X.env := by rfl) : JA C Wx X (a :: es) (mCons ma ms) :=
  ⟨(pa_cons h1.pe h2.pa hs).weak fun σ H Q ⟨ow, mu, S, R, h⟩ => ⟨ow, mu, S, R, Post.bind0 (Grow.refl H ow) (Pres.refl H) R.sub h fun x S1 v1 H1 ow1 e1 g1 p1 R1 k1 h1 => ⟨ow1, mu, S1, R1, Post.bind0 g1 p1 R.sub h1 fun xs S2 vs H2 ow2 e2 g2 p2 R2 k2 h' =>
    (show Post C Wx ow mu σ H (.ok (x :: xs) S2) Q from h') (v1 :: vs) H2 ow2 (g1.trans p1 R.sub g2) (p1.trans p2) R2 (WAll.cons (k1.1.later R1.sub g2 p2 (h2.shp _ _ _ e2)) k1.2 (WAll.anti g1.1 k2))⟩⟩, shp_bind h1.shp fun _ => shp_bind h2.shp fun _ => shp_ok⟩
end
end Vf

set_option Elab.async false
set_option linter.all false
set_option maxRecDepth 100000
set_option maxHeartbeats 1000000
/-! Vf2: defs by plain functions, their calls; repr. -/
namespace Vf
open PySem PySem.Spec PyProof.Rows L2

/-- what every rule asks of the place where it stands -/
structure Hx (C : Cn) (X : Cx) : Prop where
  hK : X.K = C.K
  calm : X.calm = true
  nd : X.N.Nodup

/-! ### data, read by the library's own rules -/
mutual
def hasL : PyData → Bool
  | .list _ => true
  | .tuple xs => hasLs xs
  | _ => false
def hasLs : List PyData → Bool
  | [] => false
  | x :: xs => hasL x || hasLs xs
end
section
variable {X : Cx} {pins : List (Addr × Obj)} {σ : L2.St} {H : Hp} {s : Shared}
mutual
theorem Rp.reads (I : Inv X pins σ H s) : ∀ {d : PyData} {v : V} {u : Value}, Rp X.K H v d → RelV v u → ∃ as, Reads s.heap u d as ∧ (hasL d = false → sysModules ∉ as)
  | _, _, _, .non, r => ⟨[], by cases r; exact .none, fun _ z => nomatch z⟩
  | _, _, _, .bl b, r => ⟨[], by cases r; exact .bool b, fun _ z => nomatch z⟩
  | _, _, _, .int i, r => by obtain ⟨t, e⟩ := r; exact ⟨[], e ▸ .int i t, fun _ z => nomatch z⟩
  | _, _, _, .str x, r => by obtain ⟨t, e⟩ := r; exact ⟨[], e ▸ .str x t, fun _ z => nomatch z⟩
  | _, _, _, .lst h q, r => by
    cases r
    obtain ⟨its, rv, ⟨o, n, ho, hc, _, hd⟩, _⟩ := I.list (Or.inl (Or.inl h))
    obtain ⟨as, k, _⟩ := RpAll.readsA I q rv
    exact ⟨_, .list ho hc hd k, fun z => nomatch z⟩
  | _, _, _, .tup h q, r => by
    cases r
    obtain ⟨its, rv, ⟨o, ho, hc, n, hd⟩, _⟩ := I.tuple h
    obtain ⟨as, k, z⟩ := RpAll.readsA I q rv
    exact ⟨as, .tuple ho hc hd k, z⟩
  | _, _, _, .dct (a := a) h, r => by
    cases r
    obtain ⟨_, hm, vs, kv, o, es, ep, ho, hx, hd, _, hes, _⟩ := I.hok _ _ h
    cases kv
    have e0 : es.toList = [] := List.length_eq_zero_iff.mp (by rw [hes.length]; rfl)
    refine ⟨_, .dict (as := []) (bs := []) ho hx.1 hd (by rw [e0]; exact .nil) (by rw [e0]; exact .nil), fun _ z => ?_⟩
    simp only [List.append_nil, List.mem_singleton] at z
    rw [z] at hm
    simp at hm
theorem RpAll.readsA (I : Inv X pins σ H s) : ∀ {ds : List PyData} {vs : List V} {us : List Value}, RpAll X.K H vs ds → Vals vs us → ∃ as, ReadsAll s.heap us ds as ∧ (hasLs ds = false → sysModules ∉ as)
  | _, _, _, .nil, r => ⟨[], by cases r; exact .nil, fun _ z => nomatch z⟩
  | _, _, _, .cons h q, r => by
    cases r with
    | cons r1 r2 =>
      obtain ⟨as, k1, z1⟩ := Rp.reads I h r1
      obtain ⟨bs, k2, z2⟩ := RpAll.readsA I q r2
      refine ⟨as ++ bs, .cons k1 k2, fun z hm => ?_⟩
      have z' := Bool.or_eq_false_iff.mp (show (hasL _ || hasLs _) = false from z)
      rcases List.mem_append.mp hm with e | e
      · exact z1 z'.1 e
      · exact z2 z'.2 e
end
end
/-- what repr can tell here -/
def reprOk (x : PyData) : Bool := x.showable && (!x.hasDict || !hasL x) && decide (x.depth ≤ 60) && decide (x.shown.length ≤ 16777216)
def rReprD (K : PySem.W.Frag) : List V → Hp → VK → Prop := fun xs H Q => ∃ v d, xs = [v] ∧ Rp K H v d ∧ reprOk d = true ∧ Q (.str d.shown) H
theorem call_reprD {X : Cx} {k : Nat} (hr : Room k X.A) (hg : X.A.guards = some []) : CallR X (.builtin "repr") (rReprD X.K) := by
  intro pins s σ H xs us Q I r h
  obtain ⟨v, d, rfl, hp, ok, q⟩ := h
  obtain ⟨u, rfl, ru⟩ := vals1 r
  simp only [reprOk, Bool.and_eq_true, Bool.or_eq_true, Bool.not_eq_true', decide_eq_true_eq] at ok
  obtain ⟨⟨⟨o1, o2⟩, o3⟩, o4⟩ := ok
  obtain ⟨as, rd, nm⟩ := Rp.reads I hp ru
  have hsm : d.hasDict = true → sysModules ∉ as := fun e => by
    rcases o2 with z | z
    · rw [e] at z; cases z
    · exact nm z
  have hz : d.shown.length ≤ sizeLine := by rw [sizeLine_eq]; exact o4
  have hu := hr.un
  cases hp with
  | non => cases ru; exact PySem.P.repr_of_none ⟨.str _, H, I.tok _, ⟨_, rfl⟩, q⟩
  | bl b => cases ru; exact PySem.P.repr_of_bool ⟨.str _, H, I.tok _, ⟨_, rfl⟩, q⟩
  | int i =>
    obtain ⟨t, rfl⟩ := ru
    exact PySem.P.repr_of_int (by simpa [PyData.showable] using o1) ⟨.str _, H, I.tok _, ⟨_, rfl⟩, q⟩
  | str x =>
    obtain ⟨t, rfl⟩ := ru
    exact PySem.P.repr_of_str ⟨.str _, H, I.tok _, ⟨_, rfl⟩, q⟩ hz
  | lst h1 h2 => cases ru; exact repr_of_reads' rd o1 hsm hg (by omega) (fun _ _ e => e) (fun h' u tk hk => ⟨.str _, H, I.kept hk, ⟨_, rfl⟩, q⟩) hz
  | tup h1 h2 => cases ru; exact repr_of_reads' rd o1 hsm hg (by omega) (fun _ _ e => e) (fun h' u tk hk => ⟨.str _, H, I.kept hk, ⟨_, rfl⟩, q⟩) hz
  | dct h1 => cases ru; exact repr_of_reads' rd o1 hsm hg (by omega) (fun _ _ e => e) (fun h' u tk hk => ⟨.str _, H, I.kept hk, ⟨_, rfl⟩, q⟩) hz

/-! ### built-ins by values -/
def Opn (C : Cn) (r : List V → Hp → VK → Prop) (g : Sx → List W → Option W) : Prop := ∀ ow0 ow mu σ H S vs ws w Q, Rel C ow mu σ H S → WAll C ow0 ow mu σ H S vs ws → g S ws = some w → Res C ow mu σ H S w Q → r vs H Q
def mFn (g : Sx → List W → Option W) (ms : MA) : ME := fun S => (ms S).bind fun ws S1 => RE.of (g S1 ws) S1
section
variable {C : Cn} {Wx : WX} {X : Cx} {es : List Expr} {e : Expr} {ms : MA} {g : Sx → List W → Option W} {r : List V → Hp → VK → Prop} {pos p : Pos}
theorem tCB_of (ho : Opn C r g) : ∀ σ H Q, tM C Wx (mFn g ms) σ H Q → tCB r (tM C Wx ms) σ H Q := by
  rintro σ H Q ⟨ow, mu, S, R, h⟩
  refine ⟨ow, mu, S, R, Post.bind R.sub h fun ws S1 vs H1 ow1 e1 g1 p1 R1 k1 h1 => ?_⟩
  obtain ⟨z, e3, h3⟩ := Post.of h1
  exact ho ow ow1 mu σ H1 S1 vs ws z Q R1 k1 e3 (Res.of h3 R1)
theorem shp_fn (ha : ShpM ms) : ShpM (mFn g ms) := shp_bind ha fun _ => shp_of
theorem je_bi {id : String} {x : Str} (hc : CallR X (.builtin id) r) (ho : Opn C r g) (hg : Gl X x) (hm : X.mg x = none) (hv : bootBuiltins x = some (.builtin id)) (ha : JA C Wx X (e :: es) ms) (hn : x ≠ "__name__" := by decide) (hdb : (x == ("__debug__" : Str)) = false := by decide)
    (he : starEach (e :: es) X.env = (false, eval e X.env) :: starEach es X.env := by rfl) (hpl : (backTo pos (starEach es X.env)).any (·.1) = false := by rfl) : JE C Wx X (.Call (.Name x p) (e :: es) [] pos) (mFn g ms) :=
  ⟨(pe_callB hc hg hm hv ha.pa hn hdb he hpl).weak (tCB_of ho), shp_fn ha.shp⟩
theorem je_ty {T : String} {x : Str} (hc : CallR X (.type T) r) (ho : Opn C r g) (hg : Gl X x) (hm : X.mg x = none) (hv : bootBuiltins x = some (.type T)) (ha : JA C Wx X (e :: es) ms) (hn : x ≠ "__name__" := by decide) (hdb : (x == ("__debug__" : Str)) = false := by decide)
    (he : starEach (e :: es) X.env = (false, eval e X.env) :: starEach es X.env := by rfl) (hpl : (backTo pos (starEach es X.env)).any (·.1) = false := by rfl) : JE C Wx X (.Call (.Name x p) (e :: es) [] pos) (mFn g ms) :=
  ⟨(pe_callTy hc hg hm hv ha.pa hn hdb he hpl).weak (tCB_of ho), shp_fn ha.shp⟩
end

/-! ### a def by a plain function -/
inductive RF where
  | ok (w : W) (π : Option Pen)
  | ex (c : Nat) (l : Option Int) (π : Option Pen)
  | bad
abbrev PF := List W → Option Pen → RF
def argW : W → Option W
  | .d x => some (.d x)
  | .new ds => some (.d (.list ds))
  | .pen => some .pen
  | .exc c l => some (.exc c l)
  | .xv y => some (.xv y)
  | .own _ => none
def argWs : List W → Option (List W)
  | [] => some []
  | w :: ws => match argW w, argWs ws with
    | some a, some as => some (a :: as)
    | _, _ => none
def isPen : W → Bool
  | .pen => true
  | _ => false
def PenR (C : Cb) (ow mu : List Addr) (H : Hp) (π : Option Pen) : Prop := ∀ p, π = some p → C.pa ∈ mu ∧ ∃ l, H C.pa = some (.lst [.ref l, .int p.i, .int p.z]) ∧ hid ow H l = some (.lst (p.ns.map V.int))
/-- an argument or an answer, with no slots around it -/
def AOk (C : Cb) (ow : List Addr) (H : Hp) (v : V) : W → Prop
  | .d x => Rp C.K (hid ow H) v x
  | .pen => v = .ref C.pa
  | .exc c l => ∃ a, v = .ref a ∧ ExcV C (hid ow H) c l a
  | .xv y => XvOk C (hid ow H) v y
  | _ => False
inductive AAll (C : Cb) (ow : List Addr) (H : Hp) : List V → List W → Prop
  | nil : AAll C ow H [] []
  | cons {v : V} {w : W} {vs : List V} {ws : List W} : AOk C ow H v w → AAll C ow H vs ws → AAll C ow H (v :: vs) (w :: ws)
theorem AAll.length {C : Cb} {ow : List Addr} {H : Hp} : ∀ {vs : List V} {ws : List W}, AAll C ow H vs ws → vs.length = ws.length
  | _, _, .nil => rfl
  | _, _, .cons _ r => by simp [AAll.length r]
/-- an answer: data, or a new list -/
def ROk (C : Cb) (ow mu : List Addr) (H : Hp) (v : V) : W → Prop
  | .d x => Rp C.K (hid ow H) v x
  | .new ds => ∃ p vs, v = .ref p ∧ p ∈ ow ∧ p ∉ mu ∧ H p = some (.lst vs) ∧ RpAll C.K (hid ow H) vs ds
  | .exc c l => ∃ a, v = .ref a ∧ ExcV C (hid ow H) c l a
  | .xv y => XvOk C (hid ow H) v y
  | _ => False
theorem ROk.w {C : Cn} {ow mu : List Addr} {σ : L2.St} {S : Sx} {H : Hp} {v : V} {w : W} (h : ROk C ow mu H v w) (n : ∀ ds, w = .new ds → ∀ p, v = .ref p → p ∉ mu) {mu' : List Addr} (n' : ∀ ds, w = .new ds → ∀ p, v = .ref p → p ∉ mu') : WOk C ow mu' σ H S v w := by
  cases w with
  | d x => exact h
  | new ds => obtain ⟨p, vs, e, h1, h2, h3, h4⟩ := h; exact ⟨p, vs, e, h1, n' ds rfl p e, h3, h4⟩
  | exc c l => exact h
  | xv y => exact h
  | own _ => exact h.elim
  | pen => exact h.elim
structure MuOk (C : Cb) (ow mu : List Addr) (H : Hp) (π : Option Pen) : Prop where
  sub : ∀ b ∈ mu, b ∈ ow
  trk : Trk ow H
  tab : LamX.Tabs C.T H
  pa : ∀ b ∈ mu, b = C.pa
  paH : C.pa ∈ ow
  pen : PenR C ow mu H π
/-- what a def promises, by its plain function -/
def spF (K : PySem.W.Frag) (cls : Nat → Addr) (T : List (Addr × Str)) (n : Nat) (F : PF) : Sp := fun vs H Q E => ∃ (pa : Addr) (ow mu : List Addr) (π : Option Pen) (ws : List W), ws.length = n ∧ MuOk ⟨K, pa, cls, T⟩ ow mu H π ∧ AAll ⟨K, pa, cls, T⟩ ow H vs ws ∧ match F ws π with
  | .ok w π' => ∀ v H' ow', Grow H ow ow' → Pres mu H H' → MuOk ⟨K, pa, cls, T⟩ ow' mu H' π' → ROk ⟨K, pa, cls, T⟩ ow' mu H' v w → WNew ow v w → Q v H'
  | .ex c l π' => ∀ H' ow' cl d, Grow H ow ow' → Pres mu H H' → MuOk ⟨K, pa, cls, T⟩ ow' mu H' π' → XOk ⟨K, pa, cls, T⟩ (hid ow' H') c l cl d → E cl d H'
  | .bad => False
/-- as the library's FnOk, where no guard is open around the call -/
structure FnG (P : Program) (w : World) (K : PySem.W.Frag) (mg : Str → Option Value) (base : Heap) (CX : CXT) (k : Nat) (f : Addr) (fd : FuncData) (ps : List Str) (sp : Sp) : Prop where
  len : ∀ vs H Q E, sp vs H Q E → vs.length = ps.length
  go : ∀ (A : Around) (outer : List Env) (s : Shared) (H : Hp) (args : Args) (us : List Value) (vs : List V) (Q : VK) (E : XK), Room k A → A.guards = some [] → Env0 P w K mg base A outer s H → BindsTo s fd args (ps.zip us) → Vals vs us → sp vs H Q E →
    codeAny (model P w) A (.call (.ref f) args) (CR CX outer P w H s Q E) s
theorem fnG_of {CX : CXT} {P : Program} {w : World} {K : PySem.W.Frag} {mg : Str → Option Value} {base : Heap} {k : Nat} {x qual : Str} {st : Stmt} {f : Addr} {fd : FuncData} {N ps : List Str} {sp : Sp} (F : Fun K x qual st f fd) (S : FnScope N ps (defScope st))
    (len : ∀ vs H Q E, sp vs H Q E → vs.length = ps.length)
    (hb : ∀ (cdv : Value), fd.code = cdv → ∀ (A : Around) (outer : List Env) (s : Shared) (H : Hp) (vs : List V) (Q : VK) (E : XK), Room k (A.deeper (envOfC qual (defScope st) s.heap.objs.size f cdv)) → A.guards = some [] → sp vs H Q E →
      ∃ t, PSs (cxOf CX P w K mg base N qual (defScope st) f cdv A outer s H E) (defBody st) t ∧ t { nx := fun _ H' => Q .non H', rt := Q } (start N vs) H) : FnG P w K mg base CX (k + 1) f fd ps sp := by
  obtain ⟨oc, od, kV, doc, pm, an, cdv, ct, osl, rfl, lk, hcd⟩ := F.ex
  refine ⟨len, fun A outer s H args us vs Q E hr hg e0 bt r hsp => ?_⟩
  have hl := len _ _ _ _ hsp
  have kin : K.In s.heap := e0.mod.kin.keeps fun b o e => (e0.bs b o e).1
  have hk : ∀ y ∈ ps.zip us, (defScope st).names.lookup y.1 = some .local ∨ ((defScope st).names.lookup y.1 = some .cell ∧ ((cellsFrom (s.heap.objs.size + 1) (defScope st).names []).lookup y.1).isSome = true) := by
    rintro ⟨n, v⟩ hy
    rcases S.par n (List.of_mem_zip hy).1 with q | q
    · left; exact q
    · right; exact ⟨q, PySem.W.cellsFrom_some _ _ _ (.inl q)⟩
  refine codeAny_call_function hr.depth (kin _ _ lk) rfl S.co S.gen rfl (PySem.W.codeRec_of kin hcd) (bt _ _ _ _ ?_)
  refine wpAny_newFunctionEnv_cells S.kind hk fun env he s1 x1 => ?_
  subst he
  refine ⟨(e0.mod.nolimit.keeps fun b o e => (e0.bs b o e).1).keeps x1.toInCall.keep, codeAny_func ?_⟩
  obtain ⟨t, ht, hq⟩ := hb cdv rfl A outer s H vs Q E (hr.deeper _) hg hsp
  have I : Inv (cxOf CX P w K mg base N qual (defScope st) f cdv A outer s H E) [] (start N vs) H s1 := inv_start S hr.hd e0 hl r x1
  refine wpAny_mono (ht.run [] s1 (start N vs) H _ I hq) ?_ fun e s' hs => hs
  intro fl s' hs
  cases fl with
  | ret u => obtain ⟨v, σ', H', J, rv, q⟩ := hs; exact ⟨v, H', J.os, J.bare, J.base, J.hok, rv, q⟩
  | next => obtain ⟨σ', H', J, q⟩ := hs; exact ⟨.non, H', J.os, J.bare, J.base, J.hok, rfl, q⟩
  | brk => obtain ⟨_, _, _, q⟩ := hs; exact q.elim
  | cont => obtain ⟨_, _, _, q⟩ := hs; exact q.elim
theorem run_fnG {X : Cx} {CX : CXT} {k : Nat} {f : Addr} {fd : FuncData} {ps : List Str} {sp : Sp} {E : L2.St → XK} {pins : List (Addr × Obj)} {σ : L2.St} {H : Hp} {s : Shared} {Q : VK} {us : List Value} {vs : List V} (F : FnG X.prog X.w X.K X.mg X.base CX k f fd ps sp) (hr : Room k X.A) (hg : X.A.guards = some [])
    (hb : Binds X.K fd ps []) (hx : PassesAt CX X σ (E σ)) (I : Inv X pins σ H s) (r : Vals vs us) (h : sp vs H Q (E σ)) : wpAny (model X.prog X.w) X.A (call (.ref f) us) (EP X pins σ Q) X.xe s := by
  have b := hb s us I.kIn (by rw [List.append_nil, ← r.length]; exact F.len _ _ _ _ h)
  rw [List.append_nil] at b
  refine wpAny_call (codeAny_mono (F.go X.A X.stack s H ⟨us, []⟩ us vs Q (E σ) hr hg I.env0 b r h) ?_)
  intro r s' hq
  cases r with
  | error e => exact hx pins H s e s' I hq
  | ok fl =>
    cases fl with
    | ret u => exact I.after hq
    | next => exact hq.elim
    | brk => exact hq.elim
    | cont => exact hq.elim
theorem pe_callG {X : Cx} {CX : CXT} {k : Nat} {f : Addr} {fd : FuncData} {ps : List Str} {sp : Sp} {E : L2.St → XK} {x : Str} {p pos : Pos} {e : Expr} {es : List Expr} {t : TA} (F : FnG X.prog X.w X.K X.mg X.base CX k f fd ps sp) (hr : Room k X.A) (hgd : X.A.guards = some [])
    (hg : Gl X x) (hm : X.mg x = some (.ref f)) (hk : PySem.W.keepIn X.K (.ref f) = true) (hb : Binds X.K fd ps []) (hx : ∀ σ, PassesAt CX X σ (E σ)) (ha : PA X (e :: es) t) (hdb : (x == ("__debug__" : Str)) = false := by decide)
    (he : starEach (e :: es) X.env = (false, eval e X.env) :: starEach es X.env := by rfl) (hpl : (backTo pos (starEach es X.env)).any (·.1) = false := by rfl) : PE X (.Call (.Name x p) (e :: es) [] pos) (tCallS sp E t) := by
  refine ⟨fun pins s σ H Q I h => wpAny_Call_Name_kw (ld_glob I hg hm ?_ hdb)⟩
  refine PySem.W.callWith_K (h₀ := X.base) I.ok.mod.kin hk (thn (ha.run pos pins s σ H _ I h) ?_) he hpl
  rintro us s1 ⟨vs, H1, I1, r, q⟩
  exact ⟨I1.kIn, run_fnG F hr hgd hb (hx σ) I1 r q⟩
end Vf

set_option Elab.async false
set_option linter.all false
set_option maxRecDepth 100000
set_option maxHeartbeats 1000000
/-! Vf3: the call of a def that is told by a plain function; statements; a def by its body. -/
namespace Vf
open PySem PySem.Spec PyProof.Rows L2

def usesPen (as : List W) : Bool := as.any isPen
def callF (n : Nat) (F : PF) (S : Sx) (ws : List W) : RE W := match argWs ws with
  | none => .bad
  | some as => if as.length = n then (match usesPen as with
    | true => (match S.pen with
      | none => .bad
      | some π => match F as (some π) with
        | .ok w (some π') => .ok w { S with pen := some π' }
        | .ex c l (some π') => .ex c l { S with pen := some π' }
        | _ => .bad)
    | false => match F as none with
      | .ok w _ => .ok w S
      | .ex c l _ => .ex c l S
      | .bad => .bad) else .bad
def mCall (n : Nat) (F : PF) (ms : MA) : ME := fun S => (ms S).bind fun ws S1 => callF n F S1 ws
section
variable {C : Cn} {ow ow' mu mu' : List Addr} {σ : L2.St} {H H' : Hp} {S : Sx}
theorem Rel.call (r : Rel C ow mu σ H S) (g : Grow H ow ow') (p : Pres mu' H H') (m : ∀ b ∈ mu', b = C.pa ∧ b ∈ mu) (t : Trk ow' H') (tb : LamX.Tabs C.T H') {π : Option Pen} (q : PenR C ow' mu H' π) : Rel C ow' mu σ H' { S with pen := π } where
  len := r.len
  paH := g.1 _ r.paH
  base := base_step r (p.mono fun b h => (m b h).2)
  fresh := r.fresh
  gro := r.gro.trans r.base r.m0 g
  m0 := r.m0
  sub := fun b h => g.1 b (r.sub b h)
  trk := t
  tab := tb
  cells := fun i c e => by
    obtain ⟨v, h1, h2⟩ := r.cells i c e
    refine ⟨v, h1, ?_⟩
    have hs : Sub (hid ow H) (hid ow' H') := hid_grow g (fun b z => r.sub b (m b z).2) p
    cases c with
    | w x => cases x with
      | d x => exact Rp.mono hs h2
      | pen => exact h2
      | exc c l => obtain ⟨a, e, z⟩ := h2; exact ⟨a, e, excV_mono hs z⟩
      | xv y => exact xv_mono hs h2
      | new _ => exact h2
      | own _ => exact h2
    | lst ds => obtain ⟨a, vs, e, h3, h4, h5, h6⟩ := h2; exact ⟨a, vs, e, h3, h4, p _ _ (fun z => h4 (m a z).1) (by intro _ z; cases z) h5, h6.mono hs⟩
  inj := r.inj
  pen := q
theorem aall_of (r : Rel C ow' mu σ H S) (s : ∀ b ∈ ow, b ∈ ow') : ∀ {vs : List V} {ws as : List W}, WAll C ow ow' mu σ H S vs ws → argWs ws = some as → AAll C ow H vs as
  | _, _, _, .nil, e => by cases e; exact .nil
  | _, _, _, .cons (w := w) (ws := ws) h n k, e => by
    unfold argWs at e
    cases e1 : argW w with
    | none => rw [e1] at e; cases e
    | some a =>
      cases e2 : argWs ws with
      | none => rw [e1, e2] at e; cases e
      | some as =>
        rw [e1, e2] at e
        cases e
        refine .cons ?_ (aall_of r s k e2)
        cases w with
        | d x => cases e1; exact Rp.mono (hid_anti s) h
        | new ds =>
          cases e1
          obtain ⟨p, xs, rfl, _, _, h3, h4⟩ := h
          exact .lst (hid_at (n ds rfl p rfl) h3) (h4.mono (hid_anti s))
        | pen => cases e1; exact h
        | exc c l => cases e1; obtain ⟨a, z, q⟩ := h; exact ⟨a, z, excV_mono (hid_anti s) q⟩
        | xv y => cases e1; exact xv_mono (hid_anti s) h
        | own _ => cases e1
end
theorem shp_call {n : Nat} {F : PF} {ws : List W} : ShpM (fun S => callF n F S ws) := fun S w S' e => by
  replace e : callF n F S ws = .ok w S' := e
  unfold callF at e
  split at e
  · cases e
  · split at e
    · split at e
      · split at e
        · cases e
        · rename_i π hp
          split at e
          · cases e; exact ⟨rfl, by rw [hp]; rfl⟩
          · cases e
          · cases e
      · split at e
        · cases e; exact Shp.refl S
        · cases e
        · cases e
    · cases e
section
variable {C : Cn} {Wx : WX} {X : Cx} {e : Expr} {es : List Expr} {ms : MA} {n k : Nat} {F : PF} {f : Addr} {fd : FuncData} {ps : List Str} {x : Str} {p pos : Pos}
/-- what a call of a def asks, by the values handed in -/
theorem call_of (h : Hx C X) (sa : ShpM ms) : ∀ σ H Q, tM C Wx (mCall n F ms) σ H Q → tCallS (spF X.K C.cls C.T n F) (WE Wx) (tM C Wx ms) σ H Q := by
  intro σ H Q ⟨ow, mu, S, R, q⟩
  refine ⟨ow, mu, S, R, Post.bind0 (Grow.refl H ow) (Pres.refl H) R.sub q fun ws S1 vs H1 ow1 e1 g1 p1 R1 k1 h1 => ?_⟩
  have Rl : Rel C ow mu σ H1 S1 := R1.less g1.1 R.sub R.paH R.gro.1
  rw [h.hK]
  unfold callF at h1
  cases ea : argWs ws with
  | none => rw [ea] at h1; exact h1.elim
  | some as =>
    rw [ea] at h1
    dsimp only at h1
    by_cases hn : as.length = n
    · rw [if_pos hn] at h1
      have A0 := aall_of R1 g1.1 k1 ea
      cases eu : usesPen as with
      | true =>
        rw [eu] at h1
        dsimp only at h1
        cases ep : S1.pen with
        | none => rw [ep] at h1; exact h1.elim
        | some π =>
          rw [ep] at h1
          dsimp only at h1
          obtain ⟨hpa, l, l1, l2⟩ := Rl.pen π ep
          have mo : ∀ b ∈ [C.pa], b = C.pa ∧ b ∈ mu := fun b hb => by
            have : b = C.pa := by simpa using hb
            exact ⟨this, this ▸ hpa⟩
          have mp : ∀ {A B : Hp}, Pres [C.pa] A B → Pres mu A B := fun z => z.mono fun b hb => (mo b hb).2
          refine ⟨C.pa, ow, [C.pa], some π, as, hn, ⟨fun b hb => Rl.sub b (mo b hb).2, Rl.trk, Rl.tab, fun b hb => (mo b hb).1, Rl.paH, fun π' e' => by cases e'; exact ⟨List.mem_singleton.mpr rfl, l, l1, l2⟩⟩, A0, ?_⟩
          cases ef : F as (some π) with
          | bad => rw [ef] at h1; exact h1.elim
          | ok w π' =>
            rw [ef] at h1
            cases π' with
            | none => exact h1.elim
            | some π' =>
              intro v H' ow' g p m ro wn
              have pr : PenR C ow' mu H' (some π') := fun z e' => by obtain ⟨_, r⟩ := m.pen z e'; exact ⟨hpa, r⟩
              exact h1 v H' ow' ((Grow.refl H ow).trans p1 R.sub g) (p1.trans (mp p)) (Rl.call g p mo m.trk m.tab pr) ⟨ro.w (fun ds e' q e'' z => wn ds e' q e'' (Rl.sub q ((mo q z).2))) (fun ds e' q e'' z => wn ds e' q e'' (Rl.sub q z)), wn⟩
          | ex c l π' =>
            rw [ef] at h1
            cases π' with
            | none => exact h1.elim
            | some π' =>
              intro H' ow' cl d g p m xo
              have pr : PenR C ow' mu H' (some π') := fun z e' => by obtain ⟨_, r⟩ := m.pen z e'; exact ⟨hpa, r⟩
              exact h1 H' ow' cl d ((Grow.refl H ow).trans p1 R.sub g) (p1.trans (mp p)) (Rl.call g p mo m.trk m.tab pr) xo
      | false =>
        rw [eu] at h1
        dsimp only at h1
        have mo : ∀ b ∈ ([] : List Addr), b = C.pa ∧ b ∈ mu := fun b hb => absurd hb List.not_mem_nil
        have mp : ∀ {A B : Hp}, Pres [] A B → Pres mu A B := fun z => z.mono fun b hb => absurd hb List.not_mem_nil
        refine ⟨C.pa, ow, [], none, as, hn, ⟨(fun b hb => absurd hb List.not_mem_nil), Rl.trk, Rl.tab, (fun b hb => (mo b hb).1), Rl.paH, (fun π' e' => nomatch e')⟩, A0, ?_⟩
        have pr : ∀ {ow' : List Addr} {H' : Hp}, Grow H1 ow ow' → Pres [] H1 H' → PenR C ow' mu H' S1.pen := fun g p z e' => by
          obtain ⟨q1, l, q2, q3⟩ := Rl.pen z e'
          exact ⟨q1, l, p _ _ List.not_mem_nil (by intro _ z; cases z) q2, hid_grow g (fun b hb => absurd hb List.not_mem_nil) p _ _ q3⟩
        cases ef : F as none with
        | bad => rw [ef] at h1; exact h1.elim
        | ok w π' =>
          rw [ef] at h1
          intro v H' ow' g p m ro wn
          exact h1 v H' ow' ((Grow.refl H ow).trans p1 R.sub g) (p1.trans (mp p)) (Rl.call g p mo m.trk m.tab (pr g p)) ⟨ro.w (fun ds e' q e'' z => absurd z List.not_mem_nil) (fun ds e' q e'' z => wn ds e' q e'' (Rl.sub q z)), wn⟩
        | ex c l π' =>
          rw [ef] at h1
          intro H' ow' cl d g p m xo
          exact h1 H' ow' cl d ((Grow.refl H ow).trans p1 R.sub g) (p1.trans (mp p)) (Rl.call g p mo m.trk m.tab (pr g p)) xo
    · rw [if_neg hn] at h1
      exact h1.elim
theorem je_call (h : Hx C X) (gd : X.A.guards = some []) (tk : Takes X Wx) (FG : FnG X.prog X.w X.K X.mg X.base (L2.CX X.prog X.w) k f fd ps (spF X.K C.cls C.T n F)) (hr : Room k X.A) (hm : X.mg x = some (.ref f)) (hk : PySem.W.keepIn X.K (.ref f) = true) (hb : Binds X.K fd ps []) (ha : JA C Wx X (e :: es) ms)
    (hg : Gl X x := by rfl) (hdb : (x == ("__debug__" : Str)) = false := by decide) (he : starEach (e :: es) X.env = (false, eval e X.env) :: starEach es X.env := by rfl) (hpl : (backTo pos (starEach es X.env)).any (·.1) = false := by rfl) : JE C Wx X (.Call (.Name x p) (e :: es) [] pos) (mCall n F ms) where
  pe := (pe_callG FG hr gd hg hm hk hb (fun σ => passAt tk σ) ha.pa hdb he hpl).weak (call_of h ha.shp)
  shp := shp_bind ha.shp fun ws => shp_call
/-- .. of a def that is told without guards -/
theorem je_callK (h : Hx C X) (tk : Takes X Wx) (FG : FnOk X.prog X.w X.K X.mg X.base (L2.CX X.prog X.w) k f fd ps (spF X.K C.cls C.T n F)) (hr : Room k X.A) (hm : X.mg x = some (.ref f)) (hk : PySem.W.keepIn X.K (.ref f) = true) (hb : Binds X.K fd ps []) (ha : JA C Wx X (e :: es) ms)
    (hg : Gl X x := by rfl) (hdb : (x == ("__debug__" : Str)) = false := by decide) (he : starEach (e :: es) X.env = (false, eval e X.env) :: starEach es X.env := by rfl) (hpl : (backTo pos (starEach es X.env)).any (·.1) = false := by rfl) : JE C Wx X (.Call (.Name x p) (e :: es) [] pos) (mCall n F ms) where
  pe := (pe_callS FG hr hg hm hk hb (fun σ => passAt tk σ) ha.pa hdb he hpl).weak (call_of h ha.shp)
  shp := shp_bind ha.shp fun ws => shp_call
end

/-! ### statements -/
structure PresS (ow mu ow' mu' : List Addr) (H H' : Hp) : Prop where
  g : Grow H ow ow'
  p : Pres mu H H'
  m : ∀ b ∈ mu', b ∈ mu ∨ Nil H b
theorem PresS.refl (ow mu : List Addr) (H : Hp) : PresS ow mu ow mu H H := ⟨Grow.refl H ow, Pres.refl H, fun _ h => .inl h⟩
theorem PresS.trans {ow mu ow1 mu1 ow2 mu2 : List Addr} {H H1 H2 : Hp} (s : ∀ b ∈ mu, b ∈ ow) (x : PresS ow mu ow1 mu1 H H1) (y : PresS ow1 mu1 ow2 mu2 H1 H2) : PresS ow mu ow2 mu2 H H2 := by
  have back : ∀ b, Nil H1 b → b ∈ mu ∨ Nil H b := fun b z => by
    by_cases hb : b ∈ mu
    · exact .inl hb
    · right
      show noTbl (H b) = none
      cases e : noTbl (H b) with
      | none => rfl
      | some o =>
        obtain ⟨e1, t⟩ := noTbl_some e
        exact z.no t (x.p b o hb t e1)
  refine ⟨⟨fun b h => y.g.1 b (x.g.1 b h), fun b hb => ?_⟩, fun b o n t h => ?_, fun b hb => ?_⟩
  · rcases y.g.2 b hb with q | q
    · exact x.g.2 b q
    · rcases back b q with z | z
      · exact .inl (s b z)
      · exact .inr z
  · refine y.p b o (fun z => ?_) t (x.p b o n t h)
    rcases x.m b z with q | q
    · exact n q
    · exact q.no t h
  · rcases y.m b hb with q | q
    · exact x.m b q
    · exact back b q
theorem PresS.of {ow mu ow' : List Addr} {H H' : Hp} (g : Grow H ow ow') (p : Pres mu H H') : PresS ow mu ow' mu H H' := ⟨g, p, fun _ h => .inl h⟩
def PostS (C : Cn) (Wx : WX) (ow mu : List Addr) (H : Hp) (r : RS) (D : Ends) : Prop := match r with
  | .nx S' => ∀ ow' mu' σ' H', PresS ow mu ow' mu' H H' → Rel C ow' mu' σ' H' S' → D.nx σ' H'
  | .rt w S' => ∀ v ow' mu' σ' H', PresS ow mu ow' mu' H H' → Rel C ow' mu' σ' H' S' → WOk C ow' mu' σ' H' S' v w → WNew ow v w → D.rt v H'
  | .bk S' => ∀ ow' mu' σ' H', PresS ow mu ow' mu' H H' → Rel C ow' mu' σ' H' S' → D.bk σ' H'
  | .ct S' => ∀ ow' mu' σ' H', PresS ow mu ow' mu' H H' → Rel C ow' mu' σ' H' S' → D.ct σ' H'
  | .ex c l S' => ∀ ow' mu' σ' H' cls d, PresS ow mu ow' mu' H H' → Rel C ow' mu' σ' H' S' → XOk C (hid ow' H') c l cls d → Wx cls d σ' H'
  | .bad => False
def tS (C : Cn) (Wx : WX) (m : MS) : TS := fun D σ H => ∃ ow mu S, Rel C ow mu σ H S ∧ PostS C Wx ow mu H (m S) D
def JS (C : Cn) (Wx : WX) (X : Cx) (st : Stmt) (m : MS) : Prop := PS X st (tS C Wx m)
def JB (C : Cn) (Wx : WX) (X : Cx) (st : List Stmt) (m : MS) : Prop := PSs X st (tS C Wx m)
section
variable {C : Cn} {Wx : WX} {ow ow1 mu mu1 : List Addr} {H H1 : Hp} {r : RS} {D D' : Ends}
theorem PostS.shift (x : PresS ow mu ow1 mu1 H H1) (s : ∀ b ∈ mu, b ∈ ow) (h : PostS C Wx ow mu H r D) : PostS C Wx ow1 mu1 H1 r D := by
  cases r with
  | nx S => exact fun a b c d y R => h a b c d (x.trans s y) R
  | rt w S => exact fun v a b c d y R k n => h v a b c d (x.trans s y) R k (n.anti x.g.1)
  | bk S => exact fun a b c d y R => h a b c d (x.trans s y) R
  | ct S => exact fun a b c d y R => h a b c d (x.trans s y) R
  | ex c l S => exact fun a b c d e f y R k => h a b c d e f (x.trans s y) R k
  | bad => exact h
/-- other ends behind it, or a jump -/
theorem PostS.ends (h : PostS C Wx ow mu H r D) (nx : ∀ σ H, D.nx σ H → D'.nx σ H) (rt : ∀ v H, D.rt v H → D'.rt v H) (bk : ∀ σ H, D.bk σ H → D'.bk σ H) (ct : ∀ σ H, D.ct σ H → D'.ct σ H) : PostS C Wx ow mu H r D' := by
  cases r with
  | nx S => exact fun a b c d y R => nx _ _ (h a b c d y R)
  | rt w S => exact fun v a b c d y R k n => rt _ _ (h v a b c d y R k n)
  | bk S => exact fun a b c d y R => bk _ _ (h a b c d y R)
  | ct S => exact fun a b c d y R => ct _ _ (h a b c d y R)
  | ex c l S => exact h
  | bad => exact h
end
def RS.seq (r : RS) (f : Sx → RS) : RS := match r with
  | .nx S => f S
  | r => r
def RE.go {α : Type} (r : RE α) (f : α → Sx → RS) : RS := match r with
  | .ok a S => f a S
  | .ex c l S => .ex c l S
  | .bad => .bad
section
variable {C : Cn} {Wx : WX} {ow mu : List Addr} {σ : L2.St} {H : Hp} {S : Sx} {D : Ends}
/-- an expression first, then a statement's rest -/
theorem Post.go {α β : Type} [Says α β] {r : RE α} {f : α → Sx → RS} {Z : β → Hp → Prop} (s : ∀ b ∈ mu, b ∈ ow) (h : PostS C Wx ow mu H (r.go f) D)
    (k : ∀ a S1 b H1 ow1, r = .ok a S1 → Grow H ow ow1 → Pres mu H H1 → Rel C ow1 mu σ H1 S1 → Says.ok C ow ow1 mu σ H1 S1 b a → PostS C Wx ow mu H (f a S1) D → Z b H1) : Post C Wx ow mu σ H r Z := by
  cases r with
  | ok a S1 => exact fun b H1 ow1 g p R q => k a S1 b H1 ow1 rfl g p R q h
  | ex c l S1 => exact fun H' ow' cls d g p R x => h ow' mu σ H' cls d (PresS.of g p) R x
  | bad => exact h
theorem PostS.seq {r : RS} {f : Sx → RS} (s : ∀ b ∈ mu, b ∈ ow) (h : PostS C Wx ow mu H (r.seq f) D) : PostS C Wx ow mu H r { D with nx := tS C Wx f D } := by
  cases r with
  | nx S1 => exact fun ow' mu' σ' H' x R => ⟨ow', mu', S1, R, PostS.shift x s h⟩
  | rt w S1 => exact h
  | bk S1 => exact h
  | ct S1 => exact h
  | ex c l S1 => exact h
  | bad => exact h
variable {X : Cx} {st : Stmt} {rest body : List Stmt} {e : Expr} {m m1 m2 : MS} {me : ME} {mt : MT} {pos : Pos}
def mSkip : MS := fun S => .nx S
def mSeq (m1 m2 : MS) : MS := fun S => (m1 S).seq m2
theorem jb_nil : JB C Wx X [] mSkip := pss_nil.weak fun D σ H ⟨ow, mu, S, R, h⟩ => h ow mu σ H (PresS.refl _ _ _) R
theorem jb_cons (h1 : JS C Wx X st m1) (h2 : JB C Wx X rest m2) : JB C Wx X (st :: rest) (mSeq m1 m2) := (pss_cons h1 h2).weak fun D σ H ⟨ow, mu, S, R, h⟩ => ⟨ow, mu, S, R, PostS.seq R.sub h⟩
theorem jb_one (h1 : JS C Wx X st m1) : JB C Wx X [st] m1 := pss_one h1
def mExpr (me : ME) : MS := fun S => (me S).go fun _ S1 => .nx S1
theorem js_expr (h : JE C Wx X e me) (hs : swapsWith e none pos.line X.env = pure false := by rfl) : JS C Wx X (.Expr e pos) (mExpr me) := (ps_expr h.pe hs).weak fun D σ H ⟨ow, mu, S, R, h⟩ =>
  ⟨ow, mu, S, R, Post.go R.sub h fun a S1 v H1 ow1 e1 g p R1 k h1 => h1 ow1 mu σ H1 (PresS.of g p) R1⟩
def mRet (me : ME) : MS := fun S => (me S).go fun w S1 => .rt w S1
theorem js_ret (h : JE C Wx X e me) : JS C Wx X (.Return (some e) pos) (mRet me) := (ps_ret h.pe).weak fun D σ H ⟨ow, mu, S, R, h⟩ =>
  ⟨ow, mu, S, R, Post.go R.sub h fun a S1 v H1 ow1 e1 g p R1 k h1 => h1 v ow1 mu σ H1 (PresS.of g p) R1 k.1 k.2⟩
def mRetN : MS := fun S => .rt (.d .none) S
theorem js_retN : JS C Wx X (.Return none pos) mRetN := ps_retN.weak fun D σ H ⟨ow, mu, S, R, h⟩ => h .non ow mu σ H (PresS.refl _ _ _) R .non WNew.d
def mIfS (mt : MT) (m1 m2 : MS) : MS := fun S => (mt S).go fun b S1 => match b with
  | true => m1 S1
  | false => m2 S1
theorem js_if {a b : List Stmt} (hc : JT C Wx X e mt) (ha : JB C Wx X a m1) (hb : JB C Wx X b m2) : JS C Wx X (.If e a b pos) (mIfS mt m1 m2) := (ps_if hc.pt ha hb).weak fun D σ H ⟨ow, mu, S, R, h⟩ =>
  ⟨ow, mu, S, R, Post.go R.sub h fun x S1 v H1 ow1 e1 g p R1 k h1 => by
    cases (show v = x from k)
    have h2 := PostS.shift (PresS.of g p) R.sub h1
    cases x with
    | true => exact iteT ⟨ow1, mu, S1, R1, h2⟩
    | false => exact iteF ⟨ow1, mu, S1, R1, h2⟩⟩
theorem js_pass : JS C Wx X (.Pass pos) mSkip := ps_pass.weak fun D σ H ⟨ow, mu, S, R, h⟩ => h ow mu σ H (PresS.refl _ _ _) R
def mBreak : MS := fun S => .bk S
def mCont : MS := fun S => .ct S
theorem js_break : JS C Wx X (.Break pos) mBreak := ps_break.weak fun D σ H ⟨ow, mu, S, R, h⟩ => h ow mu σ H (PresS.refl _ _ _) R
theorem js_cont : JS C Wx X (.Continue pos) mCont := ps_continue.weak fun D σ H ⟨ow, mu, S, R, h⟩ => h ow mu σ H (PresS.refl _ _ _) R

/-! x = e -/
def sset (S : Sx) (i : Nat) (c : Cell) : Sx := { S with rho := S.rho.set i (some c) }
def cellOf : W → Option Cell
  | .own _ => none
  | w => (argW w).map .w
def mSet (i : Nat) (me : ME) : MS := fun S => (me S).go fun w S1 => if S1.rho.length ≤ i then .bad else match cellOf w with
  | some c => .nx (sset S1 i c)
  | none => .bad
/-- x from now on holds a list of its own -/
def mSetO (i : Nat) (me : ME) : MS := fun S => (me S).go fun w S1 => if S1.rho.length ≤ i then .bad else match w with
  | .new ds => .nx (sset S1 i (.lst ds))
  | _ => .bad
theorem set_get {α : Type} {l : List α} {i j : Nat} {a b : α} (h : (l.set i a)[j]? = some b) : (j = i ∧ b = a) ∨ (j ≠ i ∧ l[j]? = some b) := by
  by_cases e : j = i
  · subst e
    by_cases hl : j < l.length
    · rw [List.getElem?_set_self hl] at h; cases h; exact .inl ⟨rfl, rfl⟩
    · rw [List.getElem?_eq_none (by simpa using hl)] at h; cases h
  · rw [List.getElem?_set_ne (Ne.symm e)] at h; exact .inr ⟨e, h⟩
theorem Rel.put {i : Nat} {v : V} {x : W} (r : Rel C ow mu σ H S) (hi : i < σ.length) (h : COk C ow mu H v (.w x)) : Rel C ow mu (σ.set i (some v)) H (sset S i (.w x)) where
  len := by show (σ.set i (some v)).length = (S.rho.set i _).length; rw [List.length_set, List.length_set]; exact r.len
  paH := r.paH
  base := r.base
  fresh := r.fresh
  gro := r.gro
  m0 := r.m0
  sub := r.sub
  trk := r.trk
  tab := r.tab
  cells := fun j c e => by
    rcases set_get e with ⟨rfl, e'⟩ | ⟨hj, e'⟩
    · cases e'; exact ⟨v, List.getElem?_set_self hi, h⟩
    · obtain ⟨u, h1, h2⟩ := r.cells j c e'
      exact ⟨u, by rw [List.getElem?_set_ne (Ne.symm hj)]; exact h1, h2⟩
  inj := fun a b ds es u h1 h2 h3 h4 => by
    rcases set_get h1 with ⟨_, z⟩ | ⟨n1, h1⟩
    · cases z
    rcases set_get h2 with ⟨_, z⟩ | ⟨n2, h2⟩
    · cases z
    rw [List.getElem?_set_ne (Ne.symm n1)] at h3
    rw [List.getElem?_set_ne (Ne.symm n2)] at h4
    exact r.inj a b ds es u h1 h2 h3 h4
  pen := r.pen
end
end Vf

set_option Elab.async false
set_option linter.all false
set_option maxRecDepth 100000
set_option maxHeartbeats 1000000
/-! Vf4: stores to names, loops, a def by its body. -/
namespace Vf
open PySem PySem.Spec PyProof.Rows L2

section
variable {C : Cn} {Wx : WX} {ow ow1 ow' mu : List Addr} {σ : L2.St} {H H1 : Hp} {S S1 : Sx} {X : Cx} {e : Expr} {me : ME} {pos pos' : Pos} {v : V} {w : W}
theorem cok_of (r : Rel C ow' mu σ H S) (s : ∀ b ∈ ow, b ∈ ow') (h : WOk C ow' mu σ H S v w) (n : WNew ow v w) {c : Cell} (e : cellOf w = some c) : ∃ x, c = .w x ∧ COk C ow mu H v (.w x) := by
  cases w with
  | d x => cases e; exact ⟨_, rfl, Rp.mono (hid_anti s) h⟩
  | new ds =>
    cases e
    obtain ⟨p, xs, rfl, _, _, h3, h4⟩ := h
    exact ⟨_, rfl, .lst (hid_at (n ds rfl p rfl) h3) (h4.mono (hid_anti s))⟩
  | pen => cases e; exact ⟨_, rfl, h⟩
  | exc c l => cases e; obtain ⟨a, z, q⟩ := h; exact ⟨_, rfl, a, z, excV_mono (hid_anti s) q⟩
  | xv y => cases e; exact ⟨_, rfl, xv_mono (hid_anti s) h⟩
  | own _ => cases e
theorem set_of {i : Nat} : ∀ D σ H, tS C Wx (mSet i me) D σ H → tAsg (tM C Wx me) (gName i) D σ H := fun D σ H ⟨ow, mu, S, R, q⟩ =>
  ⟨ow, mu, S, R, Post.go R.sub q fun w S1 v H1 ow1 e1 g p R1 k h1 => by
    by_cases hlen : S1.rho.length ≤ i
    · rw [if_pos hlen] at h1; exact h1.elim
    · rw [if_neg hlen] at h1
      cases ec : cellOf w with
      | none => rw [ec] at h1; exact h1.elim
      | some c =>
        rw [ec] at h1
        obtain ⟨x, rfl, ck⟩ := cok_of R1 g.1 k.1 k.2 ec
        have R2 : Rel C ow mu σ H1 S1 := R1.less g.1 R.sub R.paH R.gro.1
        exact h1 ow mu _ H1 (PresS.of (Grow.refl H ow) p) (R2.put (by rw [R1.len]; omega) ck)⟩
theorem js_set {i : Nat} {x : Str} (hx : Hx C X) (h : JE C Wx X e me) (hi : X.N[i]? = some x := by rfl) (hl : Loc X.env.scope x := by first | exact .inl rfl | exact .inr rfl) (hs : swapsWith e (some (.Name x pos')) pos.line X.env = pure false := by rfl)
    (hf : X.fn x = true ∨ X.env.scope.names.lookup x = some .local := by first | exact .inl rfl | exact .inr rfl) : JS C Wx X (.Assign [.Name x pos'] e pos) (mSet i me) := (ps_set hx.nd hi hl h.pe hs hf).weak set_of
/-- a list of its own at slot i -/
theorem Rel.putO {i : Nat} {p : Addr} {vs : List V} {ds : List PyData} (r : Rel C ow mu σ H S) (hi : i < σ.length) (hp : H p = some (.lst vs)) (ho : p ∉ ow) (hr : RpAll C.K (hid (p :: ow) H) vs ds) (r' : Rel C (p :: ow) mu σ H S) : Rel C (p :: ow) (p :: mu) (σ.set i (some (.ref p))) H (sset S i (.lst ds)) where
  len := by show (σ.set i _).length = (S.rho.set i _).length; rw [List.length_set, List.length_set]; exact r.len
  paH := r'.paH
  base := r'.base
  fresh := fun b h => (List.mem_cons.mp h).elim (fun e => e ▸ (.inr ((r'.gro.2 p List.mem_cons_self).resolve_left fun z => ho (r.gro.1 p z)))) (r.fresh b)
  gro := r'.gro
  m0 := r.m0
  sub := fun b h => (List.mem_cons.mp h).elim (fun e => e ▸ List.mem_cons_self) fun h => List.mem_cons_of_mem _ (r.sub b h)
  trk := r'.trk
  tab := r'.tab
  cells := fun j c e => by
    rcases set_get e with ⟨rfl, e'⟩ | ⟨hj, e'⟩
    · cases e'; exact ⟨.ref p, List.getElem?_set_self hi, p, vs, rfl, List.mem_cons_self, fun z => ho (z ▸ r.paH), hp, hr⟩
    · obtain ⟨u, h1, h2⟩ := r'.cells j c e'
      refine ⟨u, by rw [List.getElem?_set_ne (Ne.symm hj)]; exact h1, ?_⟩
      cases c with
      | w x => cases x <;> exact h2
      | lst es => obtain ⟨a, xs, q1, q2, q3, q4, q5⟩ := h2; exact ⟨a, xs, q1, List.mem_cons_of_mem _ q2, q3, q4, q5⟩
  inj := fun a b ds' es u h1 h2 h3 h4 => by
    have key : ∀ {c : Nat} {fs : List PyData}, c ≠ i → S.rho[c]? = some (some (.lst fs)) → (σ.set i (some (V.ref p)))[c]? = some (some (V.ref p)) → False := fun {c fs} hc q1 q2 => by
      rw [List.getElem?_set_ne (Ne.symm hc)] at q2
      obtain ⟨u', z1, a', xs, z2, z3, _⟩ := r.cells c _ q1
      rw [q2] at z1
      cases z1
      cases z2
      exact ho (r.sub _ z3)
    rcases set_get h1 with ⟨rfl, _⟩ | ⟨n1, h1'⟩
    · rcases set_get h2 with ⟨rfl, _⟩ | ⟨n2, h2'⟩
      · rfl
      · rw [List.getElem?_set_self hi] at h3; cases h3; exact (key n2 h2' h4).elim
    · rcases set_get h2 with ⟨rfl, _⟩ | ⟨n2, h2'⟩
      · rw [List.getElem?_set_self hi] at h4; cases h4; exact (key n1 h1' h3).elim
      · rw [List.getElem?_set_ne (Ne.symm n1)] at h3
        rw [List.getElem?_set_ne (Ne.symm n2)] at h4
        exact r.inj a b ds' es u h1' h2' h3 h4
  pen := fun π e => by obtain ⟨q1, q2⟩ := r'.pen π e; exact ⟨List.mem_cons_of_mem _ q1, q2⟩
theorem setO_of {i : Nat} : ∀ D σ H, tS C Wx (mSetO i me) D σ H → tAsg (tM C Wx me) (gName i) D σ H := fun D σ H ⟨ow, mu, S, R, q⟩ =>
  ⟨ow, mu, S, R, Post.go R.sub q fun w S1 v H1 ow1 e1 g p R1 k h1 => by
    by_cases hlen : S1.rho.length ≤ i
    · rw [if_pos hlen] at h1; exact h1.elim
    · rw [if_neg hlen] at h1
      cases w with
      | new ds =>
        obtain ⟨⟨a, vs, rfl, h1o, h2o, h3, h4⟩, wn⟩ := k
        have na : a ∉ ow := wn ds rfl a rfl
        have fa : Nil H a := (g.2 a h1o).resolve_left na
        have R2 : Rel C ow mu σ H1 S1 := R1.less g.1 R.sub R.paH R.gro.1
        have sa : ∀ b ∈ a :: ow, b ∈ ow1 := fun b hb => (List.mem_cons.mp hb).elim (fun e => e ▸ h1o) (g.1 b)
        have R3 : Rel C (a :: ow) mu σ H1 S1 := R1.less sa (fun b hb => List.mem_cons_of_mem _ (R.sub b hb)) (List.mem_cons_of_mem _ R.paH) (fun b hb => List.mem_cons_of_mem _ (R.gro.1 b hb))
        exact h1 (a :: ow) (a :: mu) _ H1 ⟨grow_consN fa, p, fun b hb => (List.mem_cons.mp hb).elim (fun e => .inr (e ▸ fa)) .inl⟩ (R2.putO (by rw [R1.len]; omega) h3 na (h4.mono (hid_anti sa)) R3)
      | d _ => exact h1.elim
      | own _ => exact h1.elim
      | pen => exact h1.elim
      | exc _ _ => exact h1.elim
      | xv _ => exact h1.elim⟩
theorem js_setO {i : Nat} {x : Str} (hx : Hx C X) (h : JE C Wx X e me) (hi : X.N[i]? = some x := by rfl) (hl : Loc X.env.scope x := by first | exact .inl rfl | exact .inr rfl) (hs : swapsWith e (some (.Name x pos')) pos.line X.env = pure false := by rfl)
    (hf : X.fn x = true ∨ X.env.scope.names.lookup x = some .local := by first | exact .inl rfl | exact .inr rfl) : JS C Wx X (.Assign [.Name x pos'] e pos) (mSetO i me) := (ps_set hx.nd hi hl h.pe hs hf).weak setO_of
end

/-! ### what is walked -/
structure WalksD (K : PySem.W.Frag) (mu ow : List Addr) (H1 : Hp) (J : It) (ds : List PyData) : Prop where
  stop : ∀ H, Pres mu H1 H → J.stop ds.length H
  go : ∀ i H, i < ds.length → Pres mu H1 H → J.go i H
  yld : ∀ i H x H', i < ds.length → Pres mu H1 H → J.yld i H x H' → ∃ d, ds[i]? = some d ∧ Sub H H' ∧ ∀ ow2, Grow H1 ow ow2 → Trk ow2 H → Rp K (hid ow2 H') x d
instance : Says (List PyData) It where
  ok := fun C ow0 ow _ _ H _ J ds => WalksD C.K ow0 ow H J ds
  anti := fun s h => ⟨fun H p => h.stop H (p.mono s), fun i H hi p => h.go i H hi (p.mono s), fun i H x H' hi p => h.yld i H x H' hi (p.mono s)⟩
abbrev MI := Sx → RE (List PyData)
structure JI (C : Cn) (Wx : WX) (X : Cx) (tg e : Expr) (m : MI) : Prop where
  pi : PI X tg e (tM C Wx m)
  shp : ShpM m
/-- targets: a name, two names -/
inductive Tg where
  | one (i : Nat)
  | two (i j : Nat)
def Tg.vs : Tg → List Nat
  | .one i => [i]
  | .two i j => [i, j]
def bindT : Tg → Sx → PyData → Option Sx
  | .one i, S, d => if S.rho.length ≤ i then none else some (sset S i (.w (.d d)))
  | .two i j, S, .tuple [a, b] => if S.rho.length ≤ i ∨ S.rho.length ≤ j then none else some (sset (sset S i (.w (.d a))) j (.w (.d b)))
  | _, _, _ => none
def tgR (K : PySem.W.Frag) : Tg → TG
  | .one i => gName i
  | .two i j => gTup K 2 (gCons (gName i) (gCons (gName j) gNil))
theorem bindT_ok {C : Cn} {ow mu : List Addr} {σ : L2.St} {H : Hp} {S S' : Sx} {t : Tg} {x : V} {d : PyData} {Q : L2.St → Hp → Prop} (R : Rel C ow mu σ H S) (h : Rp C.K (hid ow H) x d) (e : bindT t S d = some S')
    (k : ∀ σ', Rel C ow mu σ' H S' → (∀ i, i ∉ t.vs → σ'[i]? = σ[i]?) → σ'.length = σ.length → Q σ' H) : tgR C.K t x σ H Q := by
  cases t with
  | one i =>
    replace e : (if S.rho.length ≤ i then none else some (sset S i (.w (.d d)))) = some S' := e
    by_cases hl : S.rho.length ≤ i
    · rw [if_pos hl] at e; cases e
    · rw [if_neg hl] at e
      cases e
      exact k _ (R.put (by rw [R.len]; omega) h) (fun j hj => List.getElem?_set_ne (by simp [Tg.vs] at hj; exact fun z => hj z.symm)) (List.length_set ..)
  | two i j =>
    obtain ⟨a, b, rfl⟩ : ∃ a b, d = .tuple [a, b] := by
      cases d with
      | tuple xs =>
        match xs, e with
        | [a, b], _ => exact ⟨a, b, rfl⟩
        | [], e => cases e
        | [_], e => cases e
        | _ :: _ :: _ :: _, e => cases e
      | _ => cases e
    replace e : (if S.rho.length ≤ i ∨ S.rho.length ≤ j then none else some (sset (sset S i (.w (.d a))) j (.w (.d b)))) = some S' := e
    by_cases hl : S.rho.length ≤ i ∨ S.rho.length ≤ j
    · rw [if_pos hl] at e; cases e
    · rw [if_neg hl] at e
      cases e
      obtain ⟨p, xs, rfl, h1, h2⟩ := Rp.tup_inv h
      cases h2 with
      | cons q1 q2 =>
        cases q2 with
        | cons q2 q3 =>
          cases q3
          refine ⟨p, _, rfl, sqT_sub hid_sub h1, rfl, _, _, rfl, _, _, rfl, rfl, ?_⟩
          have R1 := R.put (i := i) (by rw [R.len]; omega) (x := .d a) q1
          have R2 := R1.put (i := j) (by rw [List.length_set, R.len]; omega) (x := .d b) q2
          refine k _ R2 (fun m hm => ?_) (by rw [List.length_set, List.length_set])
          simp [Tg.vs] at hm
          rw [List.getElem?_set_ne (fun z => hm.2 z.symm), List.getElem?_set_ne (fun z => hm.1 z.symm)]
def loopS (t : Tg) (body : MS) : List PyData → MS
  | [], S => .nx S
  | d :: ds, S => match bindT t S d with
    | none => .bad
    | some S' => match body S' with
      | .nx S'' => loopS t body ds S''
      | .ct S'' => loopS t body ds S''
      | .bk S'' => .nx S''
      | r => r
def mFor (t : Tg) (mi : MI) (body : MS) : MS := fun S => (mi S).go fun ds S1 => loopS t body ds S1
section
variable {C : Cn} {Wx : WX} {X : Cx} {tg e : Expr} {mi : MI} {t : Tg} {body : List Stmt} {mb : MS} {pos : Pos}
theorem js_for (po : PassesOwn (model X.prog X.w) X.A X.env X.xe) (hx : Hx C X) (hi : JI C Wx X tg e mi) (hg : PG X tg (tgR C.K t)) (hb : JB C Wx X body mb) (hs : ∀ x, foldedSetIterable e X.env x = pure x := by intro _; rfl) : JS C Wx X (.For tg e body [] pos) (mFor t mi mb) := (ps_for po hx.calm hi.pi hg hb hs).weak fun D σ H ⟨ow, mu, S, R, q⟩ =>
  ⟨ow, mu, S, R, Post.go R.sub q fun ds S1 J H1 ow1 e1 g p R1 wk h1 => by
    have h1 := PostS.shift (PresS.of g p) R.sub h1
    refine ⟨fun i m σ' H' => m = ds.length - i ∧ i ≤ ds.length ∧ ∃ ow2 mu2 S2, Rel C ow2 mu2 σ' H' S2 ∧ PresS ow1 mu ow2 mu2 H1 H' ∧ PostS C Wx ow2 mu2 H' (loopS t mb (ds.drop i) S2) D, ⟨_, rfl, Nat.zero_le _, ow1, mu, S1, R1, PresS.refl _ _ _, h1⟩, ?_⟩
    rintro i m σ' H' ⟨rfl, hi, ow2, mu2, S2, R2, x2, h2⟩
    by_cases hlt : i < ds.length
    · right
      refine ⟨wk.go i H' hlt (x2.p.mono R.sub), fun σ'' H'' => ∃ ow3 mu3 S3, Rel C ow3 mu3 σ'' H'' S3 ∧ PresS ow1 mu ow3 mu3 H1 H'' ∧ PostS C Wx ow3 mu3 H'' (loopS t mb (ds.drop (i + 1)) S3) D, fun σ'' H'' z => ⟨ds.length - (i + 1), by omega, rfl, hlt, z⟩, fun y H'' hy => ?_⟩
      obtain ⟨d, hd, sb, rp⟩ := wk.yld i H' y H'' hlt (x2.p.mono R.sub) hy
      have ed : ds.drop i = d :: ds.drop (i + 1) := by
        rw [List.drop_eq_getElem_cons hlt]
        rw [List.getElem?_eq_getElem hlt] at hd
        cases hd
        rfl
      rw [ed] at h2
      have R3 : Rel C ow2 mu2 σ' H'' S2 := R2.grow sb (Grow.refl _ _) fun b hb => by obtain ⟨o, z, t⟩ := R2.trk b hb; exact ⟨o, sb _ _ z, t⟩
      have rp' := rp ow2 x2.g R2.trk
      unfold loopS at h2
      cases eb : bindT t S2 d with
      | none => rw [eb] at h2; exact h2.elim
      | some S3 =>
        rw [eb] at h2
        dsimp only at h2
        refine bindT_ok R3 rp' eb fun σ3 R4 _ _ => ?_
        have xs : PresS ow2 mu2 ow2 mu2 H' H'' := PresS.of (Grow.refl _ _) (Pres.of sb)
        refine ⟨ow2, mu2, S3, R4, ?_⟩
        have keep : ∀ {S5 : Sx}, PostS C Wx ow2 mu2 H' (loopS t mb (ds.drop (i + 1)) S5) D → ∀ ow' mu' σ5 H5, PresS ow2 mu2 ow' mu' H'' H5 → Rel C ow' mu' σ5 H5 S5 → ∃ ow3 mu3 S3, Rel C ow3 mu3 σ5 H5 S3 ∧ PresS ow1 mu ow3 mu3 H1 H5 ∧ PostS C Wx ow3 mu3 H5 (loopS t mb (ds.drop (i + 1)) S3) D :=
          fun {S5} z ow' mu' σ5 H5 x5 R5 => ⟨ow', mu', S5, R5, x2.trans R1.sub (xs.trans R2.sub x5), PostS.shift (xs.trans R2.sub x5) R2.sub z⟩
        cases er : mb S3 with
        | nx S5 => rw [er] at h2; exact keep h2
        | ct S5 => rw [er] at h2; exact keep h2
        | bk S5 => rw [er] at h2; exact fun ow' mu' σ5 H5 x5 R5 => h2 ow' mu' σ5 H5 (xs.trans R2.sub x5) R5
        | rt w S5 => rw [er] at h2; exact fun v ow' mu' σ5 H5 x5 R5 k n => h2 v ow' mu' σ5 H5 (xs.trans R2.sub x5) R5 k n
        | ex c l S5 => rw [er] at h2; exact fun ow' mu' σ5 H5 cl dd x5 R5 k => h2 ow' mu' σ5 H5 cl dd (xs.trans R2.sub x5) R5 k
        | bad => rw [er] at h2; exact h2.elim
    · left
      have ei : i = ds.length := by omega
      subst ei
      rw [List.drop_length] at h2
      exact ⟨wk.stop H' (x2.p.mono R.sub), h2 ow2 mu2 σ' H' (PresS.refl _ _ _) R2⟩⟩
/-! while, by turns -/
def whileS (mt : MT) (body : MS) : Nat → MS
  | 0, _ => .bad
  | n + 1, S => (mt S).go fun b S1 => match b with
    | false => .nx S1
    | true => match body S1 with
      | .nx S2 => whileS mt body n S2
      | .ct S2 => whileS mt body n S2
      | .bk S2 => .nx S2
      | r => r
theorem js_while {mt : MT} {n : Nat} (po : PassesOwn (model X.prog X.w) X.A X.env X.xe) (hc : JT C Wx X e mt) (hb : JB C Wx X body mb) : JS C Wx X (.While e body [] pos) (whileS mt mb n) := (ps_while po hc.pt hb).weak fun D σ H ⟨ow, mu, S, R, q⟩ => by
  refine ⟨fun m σ' H' => ∃ ow2 mu2 S2, Rel C ow2 mu2 σ' H' S2 ∧ PostS C Wx ow2 mu2 H' (whileS mt mb m S2) D, ⟨n, ow, mu, S, R, q⟩, ?_⟩
  rintro m σ' H' ⟨ow2, mu2, S2, R2, h2⟩
  cases m with
  | zero => exact h2.elim
  | succ m =>
    refine ⟨ow2, mu2, S2, R2, Post.go R2.sub h2 fun b S3 v H3 ow3 e3 g p R3 k h3 => ?_⟩
    cases (show v = b from k)
    have h3 := PostS.shift (PresS.of g p) R2.sub h3
    cases b with
    | false => exact iteF (h3 ow3 mu2 σ' H3 (PresS.refl _ _ _) R3)
    | true =>
      refine iteT ⟨fun σ5 H5 => ∃ ow2 mu2 S2, Rel C ow2 mu2 σ5 H5 S2 ∧ PostS C Wx ow2 mu2 H5 (whileS mt mb m S2) D, fun σ5 H5 z => ⟨m, Nat.lt_succ_self m, z⟩, ow3, mu2, S3, R3, ?_⟩
      dsimp only at h3
      cases er : mb S3 with
      | nx S5 => rw [er] at h3; exact fun ow' mu' σ5 H5 x5 R5 => ⟨ow', mu', S5, R5, PostS.shift x5 R3.sub h3⟩
      | ct S5 => rw [er] at h3; exact fun ow' mu' σ5 H5 x5 R5 => ⟨ow', mu', S5, R5, PostS.shift x5 R3.sub h3⟩
      | bk S5 => rw [er] at h3; exact h3
      | rt w S5 => rw [er] at h3; exact h3
      | ex c l S5 => rw [er] at h3; exact h3
      | bad => rw [er] at h3; exact h3.elim
end

/-! ### a def by its body -/
def outW (S : Sx) : W → Option W
  | .d x => some (.d x)
  | .new ds => some (.new ds)
  | .exc c l => some (.exc c l)
  | .xv y => some (.xv y)
  | .pen => none
  | .own i => match S.rho[i]? with
    | some (some (.lst ds)) => some (.new ds)
    | _ => none
def start0 (n : Nat) (ws : List W) (π : Option Pen) : Sx := ⟨ws.map (fun w => some (.w w)) ++ List.replicate n none, π⟩
def penOut (π π' : Option Pen) : Option Pen := match π with
  | none => none
  | some _ => π'
def ofBody (n : Nat) (m : MS) : PF := fun ws π => match m (start0 n ws π) with
  | .rt w S' => match outW S' w with
    | some w' => .ok w' (penOut π S'.pen)
    | none => .bad
  | .nx S' => .ok (.d .none) (penOut π S'.pen)
  | .ex c l S' => .ex c l (penOut π S'.pen)
  | _ => .bad
section
variable {P : Program} {w : World} {K : PySem.W.Frag} {mg : Str → Option Value} {base : Heap} {cls : Nat → Addr} {T : List (Addr × Str)}
theorem cok_aok {C : Cn} {ow mu : List Addr} {H : Hp} {v : V} {x : W} (h : AOk C ow H v x) : COk C ow mu H v (.w x) := by
  cases x with
  | d x => exact h
  | pen => exact h
  | exc c l => exact h
  | xv y => exact h
  | new _ => exact h.elim
  | own _ => exact h.elim
theorem rel_start {C : Cb} {ow mu : List Addr} {H : Hp} {π : Option Pen} {vs : List V} {ws : List W} {N : List Str} (m : MuOk C ow mu H π) (a : AAll C ow H vs ws) : Rel ⟨C, H, mu, ow⟩ ow mu (L2.start N vs) H (start0 (N.length - vs.length) ws π) where
  base := Pres.refl H
  fresh := fun b h => .inl h
  gro := Grow.refl H ow
  m0 := m.sub
  sub := m.sub
  trk := m.trk
  tab := m.tab
  len := by simp [L2.start, start0, a.length]
  paH := m.paH
  cells := fun i c e => by
    have key : ∀ {vs : List V} {ws : List W}, AAll C ow H vs ws → ∀ (i : Nat) (c : Cell), (ws.map fun w => some (Cell.w w))[i]? = some (some c) → ∃ v, vs[i]? = some v ∧ COk ⟨C, H, mu, ow⟩ ow mu H v c := by
      intro vs ws a
      induction a with
      | nil => intro i c e; simp at e
      | cons h r ih =>
        intro i c e
        cases i with
        | zero => simp at e; subst e; exact ⟨_, rfl, cok_aok h⟩
        | succ i => exact ih i c (by simpa using e)
    have el := a.length
    by_cases hi : i < ws.length
    · have e' : (ws.map fun w => some (Cell.w w))[i]? = some (some c) := by
        rw [show (start0 (N.length - vs.length) ws π).rho = ws.map (fun w => some (Cell.w w)) ++ List.replicate _ none from rfl, List.getElem?_append_left (by simpa using hi)] at e
        exact e
      obtain ⟨v, h1, h2⟩ := key a i c e'
      refine ⟨v, ?_, h2⟩
      show (vs.map some ++ _)[i]? = _
      rw [List.getElem?_append_left (by simp; omega), List.getElem?_map, h1]
      rfl
    · rw [show (start0 (N.length - vs.length) ws π).rho = ws.map (fun w => some (Cell.w w)) ++ List.replicate _ none from rfl, List.getElem?_append_right (by simpa using Nat.le_of_not_lt hi)] at e
      rw [List.getElem?_replicate] at e
      split at e <;> cases e
  inj := fun i j ds es v h1 _ _ _ => by
    have : ∀ {ws : List W} {i : Nat} {n : Nat}, (ws.map (fun w => some (Cell.w w)) ++ List.replicate n none)[i]? = some (some (Cell.lst ds)) → False := by
      intro ws i n e
      have hm := List.mem_of_getElem? e
      rcases List.mem_append.mp hm with z | z
      · obtain ⟨w, _, q⟩ := List.mem_map.mp z; cases q
      · have := List.eq_of_mem_replicate z; cases this
    exact (this h1).elim
  pen := m.pen
/-- a body's reading from what is promised -/
theorem body_of {n : Nat} {m : MS} {N ps : List Str} {pa : Addr} {ow mu : List Addr} {π : Option Pen} {ws : List W} {vs : List V} {H : Hp} {Q : VK} {E : XK} (hn : N.length - ps.length = n) (h1 : ws.length = ps.length) (mo : MuOk ⟨K, pa, cls, T⟩ ow mu H π) (h2 : AAll ⟨K, pa, cls, T⟩ ow H vs ws)
    (h3 : match ofBody n m ws π with
      | .ok w π' => ∀ v H' ow', Grow H ow ow' → Pres mu H H' → MuOk ⟨K, pa, cls, T⟩ ow' mu H' π' → ROk ⟨K, pa, cls, T⟩ ow' mu H' v w → WNew ow v w → Q v H'
      | .ex c l π' => ∀ H' ow' cl d, Grow H ow ow' → Pres mu H H' → MuOk ⟨K, pa, cls, T⟩ ow' mu H' π' → XOk ⟨K, pa, cls, T⟩ (hid ow' H') c l cl d → E cl d H'
      | .bad => False) : tS ⟨⟨K, pa, cls, T⟩, H, mu, ow⟩ (fun cl d _ H => E cl d H) m { nx := fun _ H' => Q .non H', rt := Q } (L2.start N vs) H := by
  refine ⟨ow, mu, start0 n ws π, ?_, ?_⟩
  · have := rel_start (N := N) mo h2
    rw [h2.length, h1, hn] at this
    exact this
  · have mu_out : ∀ {ow' mu' : List Addr} {H' : Hp} {σ' : L2.St} {S' : Sx}, PresS ow mu ow' mu' H H' → Rel ⟨⟨K, pa, cls, T⟩, H, mu, ow⟩ ow' mu' σ' H' S' → MuOk ⟨K, pa, cls, T⟩ ow' mu H' (penOut π S'.pen) := fun {ow' mu' H' σ' S'} x R => by
      refine ⟨fun b hb => x.g.1 b (mo.sub b hb), R.trk, R.tab, mo.pa, R.paH, fun z e => ?_⟩
      cases π with
      | none => cases e
      | some π0 =>
        obtain ⟨q1, _⟩ := mo.pen π0 rfl
        obtain ⟨_, q2⟩ := R.pen z e
        exact ⟨q1, q2⟩
    unfold ofBody at h3
    cases er : m (start0 n ws π) with
    | nx S' =>
      rw [er] at h3
      exact fun ow' mu' σ' H' x R => h3 .non H' ow' x.g x.p (mu_out x R) .non WNew.d
    | rt w S' =>
      rw [er] at h3
      dsimp only at h3
      intro v ow' mu' σ' H' x R k wn
      cases w with
      | d y => exact h3 v H' ow' x.g x.p (mu_out x R) k WNew.d
      | new ds =>
        obtain ⟨p, vs', e1, e2, e3, e4, e5⟩ := k
        exact h3 v H' ow' x.g x.p (mu_out x R) ⟨p, vs', e1, e2, fun z => wn ds rfl p e1 (mo.sub p z), e4, e5⟩ wn
      | exc c l => exact h3 v H' ow' x.g x.p (mu_out x R) k (fun _ e => nomatch e)
      | xv y => exact h3 v H' ow' x.g x.p (mu_out x R) k (fun _ e => nomatch e)
      | pen => exact h3.elim
      | own i =>
        obtain ⟨k1, ds, k2⟩ := k
        simp only [outW, k2] at h3
        obtain ⟨v', q1, a, vs', q2, q3, q4, q5, q6⟩ := R.cells i _ k2
        rw [k1] at q1
        cases q1
        have na : a ∉ mu := fun z => q4 (mo.pa a z)
        have fa : Nil H a := (x.m a q3).resolve_left na
        have no : a ∉ ow := fun z => by obtain ⟨o, e, t⟩ := mo.trk a z; exact fa.no t e
        exact h3 v H' ow' x.g x.p (mu_out x R) ⟨a, vs', q2, R.sub a q3, na, q5, q6⟩ (fun _ _ p e => by rw [q2] at e; cases e; exact no)
    | ex c l S' =>
      rw [er] at h3
      exact fun ow' mu' σ' H' cl d x R k => h3 H' ow' cl d x.g x.p (mu_out x R) k
    | bk S' => rw [er] at h3; exact h3.elim
    | ct S' => rw [er] at h3; exact h3.elim
    | bad => rw [er] at h3; exact h3.elim
theorem fnG_body {x qual : Str} {st : Stmt} {f : Addr} {fd : FuncData} {N ps : List Str} {k n : Nat} {m : MS} (Fu : Fun K x qual st f fd) (Sc : FnScope N ps (defScope st)) (hn : N.length - ps.length = n)
    (hm : ∀ (C : Cn) (cdv : Value), fd.code = cdv → ∀ (A : Around) (outer : List Env) (s : Shared) (H : Hp) (E : XK), C.K = K → C.cls = cls → C.T = T → Room k (A.deeper (envOfC qual (defScope st) s.heap.objs.size f cdv)) → A.guards = some [] →
      JB C (fun cl d _ H => E cl d H) (cxOf (L2.CX P w) P w K mg base N qual (defScope st) f cdv A outer s H E) (defBody st) m) :
    FnG P w K mg base (L2.CX P w) (k + 1) f fd ps (spF K cls T ps.length (ofBody n m)) := by
  refine fnG_of Fu Sc (fun vs H Q E h => ?_) fun cdv hcdv A outer s H vs Q E hr hg hsp => ?_
  · obtain ⟨pa, ow, mu, π, ws, h1, _, h2, _⟩ := h
    rw [h2.length, h1]
  · obtain ⟨pa, ow, mu, π, ws, h1, mo, h2, h3⟩ := hsp
    exact ⟨_, hm ⟨⟨K, pa, cls, T⟩, H, mu, ow⟩ cdv hcdv A outer s H E rfl rfl rfl hr hg, body_of hn h1 mo h2 h3⟩
/-- .. where no guard is asked for -/
theorem fnK_body {x qual : Str} {st : Stmt} {f : Addr} {fd : FuncData} {N ps : List Str} {k n : Nat} {m : MS} (Fu : Fun K x qual st f fd) (Sc : FnScope N ps (defScope st)) (hn : N.length - ps.length = n)
    (hm : ∀ (C : Cn) (cdv : Value), fd.code = cdv → ∀ (A : Around) (outer : List Env) (s : Shared) (H : Hp) (E : XK), C.K = K → C.cls = cls → C.T = T → Room k (A.deeper (envOfC qual (defScope st) s.heap.objs.size f cdv)) →
      JB C (fun cl d _ H => E cl d H) (cxOf (L2.CX P w) P w K mg base N qual (defScope st) f cdv A outer s H E) (defBody st) m) :
    FnOk P w K mg base (L2.CX P w) (k + 1) f fd ps (spF K cls T ps.length (ofBody n m)) := by
  obtain ⟨oc, od, kV, doc, pm, an, cdv, ct, osl, rfl, lk, hcd⟩ := Fu.ex
  refine fn_of lk hcd Sc (fun vs H Q E h => ?_) fun A outer s H vs Q E hr hsp => ?_
  · obtain ⟨pa, ow, mu, π, ws, h1, _, h2, _⟩ := h
    rw [h2.length, h1]
  · obtain ⟨pa, ow, mu, π, ws, h1, mo, h2, h3⟩ := hsp
    exact ⟨_, hm ⟨⟨K, pa, cls, T⟩, H, mu, ow⟩ cdv rfl A outer s H E rfl rfl rfl hr, body_of hn h1 mo h2 h3⟩
theorem FnG.of {CX : CXT} {k : Nat} {f : Addr} {fd : FuncData} {ps : List Str} {sp : Sp} (F : FnOk P w K mg base CX k f fd ps sp) : FnG P w K mg base CX k f fd ps sp := ⟨F.len, fun A outer s H args us vs Q E hr _ => F.run A outer s H args us vs Q E hr⟩
end
end Vf

set_option Elab.async false
set_option linter.all false
set_option maxRecDepth 100000
set_option maxHeartbeats 1000000
/-! Vf5: operations on values. -/
namespace Vf
open PySem PySem.Spec PyProof.Rows L2

def wi : W → Option Int
  | .d (.int i) => some i
  | _ => none
def ws : W → Option Str
  | .d (.str x) => some x
  | _ => none
def wt : W → Option (List PyData)
  | .d (.tuple ds) => some ds
  | _ => none
section
variable {C : Cn} {ow mu : List Addr} {σ : L2.St} {H : Hp} {S : Sx} {v : V} {w : W}
theorem wi_ok {i : Int} (k : WOk C ow mu σ H S v w) (e : wi w = some i) : v = .int i := by
  cases w with
  | d x =>
    cases x with
    | int c => cases e; exact Rp.int_inv k
    | _ => cases e
  | _ => cases e
theorem ws_ok {i : Str} (k : WOk C ow mu σ H S v w) (e : ws w = some i) : v = .str i := by
  cases w with
  | d x =>
    cases x with
    | str c => cases e; exact Rp.str_inv k
    | _ => cases e
  | _ => cases e
theorem wt_ok {ds : List PyData} (k : WOk C ow mu σ H S v w) (e : wt w = some ds) : ∃ a vs, v = .ref a ∧ SqT C.K (hid ow H) a vs ∧ RpAll C.K (hid ow H) vs ds := by
  cases w with
  | d x =>
    cases x with
    | tuple c => cases e; exact Rp.tup_inv k
    | _ => cases e
  | _ => cases e
end
theorem szl {n : Nat} (h : n ≤ 16777216) : n ≤ sizeLine := by rw [sizeLine_eq]; exact h
section
variable {C : Cn}
/-! ints -/
def gI (f : Int → Int → Int) : Sx → W → W → Option W := fun _ a b => match wi a, wi b with
  | some i, some j => some (.d (.int (f i j)))
  | _, _ => none
def gIc (c : Int → Int → Bool) (f : Int → Int → Int) : Sx → W → W → Option W := fun _ a b => match wi a, wi b with
  | some i, some j => if c i j then some (.d (.int (f i j))) else none
  | _, _ => none
def gB (f : Int → Int → Bool) : Sx → W → W → Option W := fun _ a b => match wi a, wi b with
  | some i, some j => some (.d (.bool (f i j)))
  | _, _ => none
theorem op2_I (f : Int → Int → Int) : Op2 C (rI0 fun i j => .int (f i j)) (gI f) := fun ow mu σ H S v1 w1 v2 w2 w Q R k1 k2 e q => by
  unfold gI at e
  split at e
  · rename_i i j h1 h2; cases e; exact ⟨i, j, wi_ok k1 h1, wi_ok k2 h2, q.flat R (.int _)⟩
  · cases e
theorem op2_Ic {cc : Int → Int → Prop} (c : Int → Int → Bool) (f : Int → Int → Int) (h : ∀ i j, c i j = true → cc i j) : Op2 C (rI cc fun i j => .int (f i j)) (gIc c f) := fun ow mu σ H S v1 w1 v2 w2 w Q R k1 k2 e q => by
  unfold gIc at e
  split at e
  · rename_i i j h1 h2
    split at e
    · rename_i hc; cases e; exact ⟨i, j, wi_ok k1 h1, wi_ok k2 h2, h i j hc, q.flat R (.int _)⟩
    · cases e
  · cases e
theorem op2_B (f : Int → Int → Bool) : Op2 C (rI0 fun i j => .bl (f i j)) (gB f) := fun ow mu σ H S v1 w1 v2 w2 w Q R k1 k2 e q => by
  unfold gB at e
  split at e
  · rename_i i j h1 h2; cases e; exact ⟨i, j, wi_ok k1 h1, wi_ok k2 h2, q.flat R (.bl _)⟩
  · cases e
def gAdd := gI fun i j => i + j
def gSub := gI fun i j => i - j
def gMul := gIc (fun i j => decide (i.natAbs.log2 + j.natAbs.log2 < 1000000)) fun i j => i * j
def gDiv := gIc (fun _ j => decide (0 < j) && decide (j.natAbs.log2 < 9000)) fun i j => i / j
def gMod := gIc (fun _ j => decide (0 < j)) fun i j => i % j
def gPow := gIc (fun i j => decide (0 ≤ j) && decide (j ≤ 1000000) && decide (i.natAbs < 18446744073709551616)) fun i j => i ^ j.toNat
theorem o_add : Op2 C (rI0 fun i j => .int (i + j)) gAdd := op2_I _
theorem o_sub : Op2 C (rI0 fun i j => .int (i - j)) gSub := op2_I _
theorem o_mul : Op2 C (rI CMulW fun i j => .int (i * j)) gMul := op2_Ic _ _ fun i j h => by
  simp only [decide_eq_true_eq] at h; exact h
theorem o_div : Op2 C (rI CDivW fun i j => .int (i / j)) gDiv := op2_Ic _ _ fun i j h => by
  simp only [Bool.and_eq_true, decide_eq_true_eq] at h; exact h
theorem o_mod : Op2 C (rI (fun _ j => 0 < j) fun i j => .int (i % j)) gMod := op2_Ic _ _ fun i j h => by
  simp only [decide_eq_true_eq] at h; exact h
theorem o_pow : Op2 C (rI CPow fun i j => .int (i ^ j.toNat)) gPow := op2_Ic _ _ fun i j h => by
  simp only [Bool.and_eq_true, decide_eq_true_eq] at h; exact ⟨h.1.1, h.1.2, h.2⟩
def gLt := gB fun i j => decide (i < j)
def gLe := gB fun i j => decide (i ≤ j)
def gGt := gB fun i j => decide (j < i)
def gGe := gB fun i j => decide (j ≤ i)
theorem o_lt : Op2 C (rI0 fun i j => .bl (decide (i < j))) gLt := op2_B _
theorem o_le : Op2 C (rI0 fun i j => .bl (decide (i ≤ j))) gLe := op2_B _
theorem o_gt : Op2 C (rI0 fun i j => .bl (decide (j < i))) gGt := op2_B _
theorem o_ge : Op2 C (rI0 fun i j => .bl (decide (j ≤ i))) gGe := op2_B _
def gNeg : Sx → W → Option W := fun _ a => (wi a).map fun i => .d (.int (-i))
theorem o_neg : Op1 C (rU fun i => .int (-i)) gNeg := fun ow mu σ H S v1 w1 w Q R k1 e q => by
  unfold gNeg at e
  cases h : wi w1 with
  | none => rw [h] at e; cases e
  | some i => rw [h] at e; cases e; exact ⟨i, wi_ok k1 h, q.flat R (.int _)⟩
/-! texts -/
def gCatS : Sx → W → W → Option W := fun _ a b => match ws a, ws b with
  | some x, some y => if x.length + y.length ≤ 16777216 then some (.d (.str (x ++ y))) else none
  | _, _ => none
theorem o_catS : Op2 C (fun x y H Q => ∃ i j, x = .str i ∧ y = .str j ∧ i.length + j.length ≤ sizeLine ∧ Q (.str (i ++ j)) H) gCatS := fun ow mu σ H S v1 w1 v2 w2 w Q R k1 k2 e q => by
  unfold gCatS at e
  split at e
  · rename_i i j h1 h2
    split at e
    · rename_i hc; cases e; exact ⟨i, j, ws_ok k1 h1, ws_ok k2 h2, szl hc, q.flat R (.str _)⟩
    · cases e
  · cases e
/-! lists and tuples, one behind the other -/
def gCatL : Sx → W → W → Option W := fun S a b => match lview S a, lview S b with
  | some x, some y => if x.length + y.length ≤ 16777216 then some (.new (x ++ y)) else none
  | _, _ => none
theorem o_catL : Op2 C rCat gCatL := fun ow mu σ H S v1 w1 v2 w2 w Q R k1 k2 e q => by
  unfold gCatL at e
  split at e
  · rename_i x y h1 h2
    split at e
    · rename_i hc
      cases e
      obtain ⟨a, xs, rfl, ha, ra⟩ := lview_ok R k1 h1
      obtain ⟨b, ys, rfl, hb, rb⟩ := lview_ok R k2 h2
      exact ⟨a, b, xs, ys, rfl, rfl, ha, hb, szl (by rw [ra.length, rb.length]; exact hc), fun p hp => q.newL R (ra.append rb) hp⟩
    · cases e
  · cases e
def gCatT : Sx → W → W → Option W := fun _ a b => match wt a, wt b with
  | some x, some y => if x.length + y.length ≤ 16777216 then some (.d (.tuple (x ++ y))) else none
  | _, _ => none
theorem rp_nil {K : PySem.W.Frag} {G : Hp} {xs : List V} {ds : List PyData} (r : RpAll K G xs ds) (h : xs = []) : ds = [] := by subst h; cases r; rfl
theorem o_catT : Op2 C (rCatA C.K) gCatT := fun ow mu σ H S v1 w1 v2 w2 w Q R k1 k2 e q => by
  unfold gCatT at e
  split at e
  · rename_i x y h1 h2
    split at e
    · rename_i hc
      cases e
      obtain ⟨a, xs, rfl, ha, ra⟩ := wt_ok k1 h1
      obtain ⟨b, ys, rfl, hb, rb⟩ := wt_ok k2 h2
      refine ⟨a, b, xs, ys, rfl, rfl, sqT_sub hid_sub ha, sqT_sub hid_sub hb, szl (by rw [ra.length, rb.length]; exact hc), fun z => ?_, fun _ z => ?_, fun _ _ p hp => q.newT R (ra.append rb) hp⟩
      · have := rp_nil ra z
        subst this
        exact q.flat R (.tup hb rb)
      · have := rp_nil rb z
        subst this
        rw [List.append_nil] at q
        exact q.flat R (.tup ha ra)
    · cases e
  · cases e
theorem rp_flat {K : PySem.W.Frag} {G : Hp} {vs : List V} {ds : List PyData} (r : RpAll K G vs ds) : ∀ n : Nat, RpAll K G (List.replicate n vs).flatten (List.replicate n ds).flatten
  | 0 => .nil
  | n + 1 => by rw [List.replicate_succ, List.replicate_succ, List.flatten_cons, List.flatten_cons]; exact r.append (rp_flat r n)
def gRepT : Sx → W → W → Option W := fun _ a b => match wt a, wi b with
  | some x, some k => if !x.isEmpty && decide (2 ≤ k) && decide (k ≤ 1000) && decide (x.length ≤ 1000) then some (.d (.tuple (List.replicate k.toNat x).flatten)) else none
  | _, _ => none
theorem o_repT : Op2 C (rRepT C.K) gRepT := fun ow mu σ H S v1 w1 v2 w2 w Q R k1 k2 e q => by
  unfold gRepT at e
  split at e
  · rename_i x k h1 h2
    split at e
    · rename_i hc
      simp only [Bool.and_eq_true, Bool.not_eq_true', decide_eq_true_eq] at hc
      obtain ⟨⟨⟨c1, c2⟩, c3⟩, c4⟩ := hc
      cases e
      obtain ⟨a, xs, rfl, ha, ra⟩ := wt_ok k1 h1
      refine ⟨a, k, xs, rfl, wi_ok k2 h2, sqT_sub hid_sub ha, fun z => ?_, c2, c3, by rw [ra.length]; exact c4, fun p hp => q.newT R (rp_flat ra _) hp⟩
      have := rp_nil ra z
      subst this
      cases c1
    · cases e
  · cases e
def gRepL : Sx → W → W → Option W := fun S a b => match lview S a, wi b with
  | some x, some k => if decide (0 ≤ k) && decide (k ≤ 1000) && decide (x.length ≤ 1000) then some (.new (List.replicate k.toNat x).flatten) else none
  | _, _ => none
theorem o_repL : Op2 C rRep gRepL := fun ow mu σ H S v1 w1 v2 w2 w Q R k1 k2 e q => by
  unfold gRepL at e
  split at e
  · rename_i x k h1 h2
    split at e
    · rename_i hc
      simp only [Bool.and_eq_true, decide_eq_true_eq] at hc
      obtain ⟨⟨c2, c3⟩, c4⟩ := hc
      cases e
      obtain ⟨a, xs, rfl, ha, ra⟩ := lview_ok R k1 h1
      refine ⟨a, k, xs, rfl, wi_ok k2 h2, ha, by omega, by omega, szl ?_, fun p hp => q.newL R (rp_flat ra _) hp⟩
      rw [ra.length]
      exact Nat.le_trans (Nat.mul_le_mul c4 (show k.toNat ≤ 1000 by omega)) (by decide)
    · cases e
  · cases e
/-! == -/
theorem flatD_inv {K : PySem.W.Frag} {G : Hp} {x : PyData} {v a : V} (h : flatD x = some a) (r : Rp K G v x) : v = a := by
  cases r <;> cases h <;> rfl
mutual
theorem Rp.dp {K : PySem.W.Frag} {G : Hp} : ∀ {v : V} {d : PyData}, Rp K G v d → d.hasDict = false → Dp K G v d
  | _, _, .non, _ => .non
  | _, _, .bl b, _ => .bl b
  | _, _, .int i, _ => .int i
  | _, _, .str x, _ => .str x
  | _, _, .lst h r, e => .lst (.inl (.inl h)) (RpAll.dpA r (by simpa [PyData.hasDict] using e))
  | _, _, .tup h r, e => .tup h (RpAll.dpA r (by simpa [PyData.hasDict] using e))
  | _, _, .dct _, e => by simp [PyData.hasDict] at e
theorem RpAll.dpA {K : PySem.W.Frag} {G : Hp} : ∀ {vs : List V} {ds : List PyData}, RpAll K G vs ds → PyData.hasDictAll ds = false → DpAll K G vs ds
  | _, _, .nil, _ => .nil
  | _, _, .cons h r, e => by
    simp only [PyData.hasDictAll, Bool.or_eq_false_iff] at e
    exact .cons (Rp.dp h e.1) (RpAll.dpA r e.2)
end
def eqD (x y : PyData) : Option Bool := match flatD x, flatD y with
  | some a, some b => if scal a b then some (decide (a = b)) else if SeqAt.shaped x && SeqAt.shaped y then some (PyData.eqv x y) else none
  | _, _ => if SeqAt.shaped x && SeqAt.shaped y then some (PyData.eqv x y) else none
theorem eqD_ok {K : PySem.W.Frag} {G : Hp} {x y : PyData} {u v : V} {b : Bool} (hx : Rp K G u x) (hy : Rp K G v y) (e : eqD x y = some b) :
    (scal u v = true ∧ b = decide (u = v)) ∨ (Dp K G u x ∧ Dp K G v y ∧ SeqAt.shaped x = true ∧ SeqAt.shaped y = true ∧ b = PyData.eqv x y) := by
  have deep : (if SeqAt.shaped x && SeqAt.shaped y then some (PyData.eqv x y) else none) = some b → (Dp K G u x ∧ Dp K G v y ∧ SeqAt.shaped x = true ∧ SeqAt.shaped y = true ∧ b = PyData.eqv x y) := fun e => by
    split at e
    · rename_i h
      obtain ⟨h1, h2⟩ := Bool.and_eq_true_iff.mp h
      cases e
      exact ⟨hx.dp (PyData.hasDict_of_canLay _ (SeqAt.canLay_of_shaped h1)), hy.dp (PyData.hasDict_of_canLay _ (SeqAt.canLay_of_shaped h2)), h1, h2, rfl⟩
    · cases e
  unfold eqD at e
  split at e
  · rename_i a c h1 h2
    have e1 := flatD_inv h1 hx
    have e2 := flatD_inv h2 hy
    subst e1 e2
    split at e
    · rename_i h; cases e; exact .inl ⟨h, rfl⟩
    · exact .inr (deep e)
  · exact .inr (deep e)
def gEq : Sx → W → W → Option W := fun S a b => match dview S a, dview S b with
  | some x, some y => (eqD x y).map fun b => .d (.bool b)
  | _, _ => none
def gNe : Sx → W → W → Option W := fun S a b => match dview S a, dview S b with
  | some x, some y => (eqD x y).map fun b => .d (.bool (!b))
  | _, _ => none
def rEqA (K : PySem.W.Frag) : R2 := fun x y H Q => rEq x y H Q ∨ rEqD K x y H Q
def rNeA (K : PySem.W.Frag) : R2 := fun x y H Q => rNe x y H Q ∨ rNeD K x y H Q
theorem o_eq : Op2 C (rEqA C.K) gEq := fun ow mu σ H S v1 w1 v2 w2 w Q R k1 k2 e q => by
  unfold gEq at e
  split at e
  · rename_i x y h1 h2
    cases eb : eqD x y with
    | none => rw [eb] at e; cases e
    | some b =>
      rw [eb] at e
      cases e
      have z := q.flat R (.bl b)
      rcases eqD_ok (dview_ok R k1 h1) (dview_ok R k2 h2) eb with ⟨s, rfl⟩ | ⟨d1, d2, s1, s2, rfl⟩
      · exact .inl ⟨s, z⟩
      · exact .inr ⟨x, y, d1, d2, s1, s2, z⟩
  · cases e
theorem o_ne : Op2 C (rNeA C.K) gNe := fun ow mu σ H S v1 w1 v2 w2 w Q R k1 k2 e q => by
  unfold gNe at e
  split at e
  · rename_i x y h1 h2
    cases eb : eqD x y with
    | none => rw [eb] at e; cases e
    | some b =>
      rw [eb] at e
      cases e
      have z := q.flat R (.bl (!b))
      rcases eqD_ok (dview_ok R k1 h1) (dview_ok R k2 h2) eb with ⟨s, rfl⟩ | ⟨d1, d2, s1, s2, rfl⟩
      · exact .inl ⟨s, z⟩
      · exact .inr ⟨x, y, d1, d2, s1, s2, z⟩
  · cases e
/-! is None, is True -/
def gIsN : Sx → W → W → Option W := fun _ a b => match b with
  | .d .none => match a with
    | .d .none => some (.d (.bool true))
    | .own _ => none
    | _ => some (.d (.bool false))
  | _ => none
def gNotN : Sx → W → W → Option W := fun S a b => match gIsN S a b with
  | some (.d (.bool c)) => some (.d (.bool (!c)))
  | _ => none
theorem isN_ok {ow mu : List Addr} {σ : L2.St} {H : Hp} {S : Sx} {v1 v2 : V} {w1 w2 w : W} (R : Rel C ow mu σ H S) (k1 : WOk C ow mu σ H S v1 w1) (k2 : WOk C ow mu σ H S v2 w2) (e : gIsN S w1 w2 = some w) : v2 = .non ∧ w = .d (.bool (decide (v1 = .non))) := by
  cases w2 with
  | d y =>
    cases y with
    | none =>
      refine ⟨Rp.non_inv k2, ?_⟩
      cases w1 with
      | d x => cases x <;> cases e <;> cases k1 <;> rfl
      | new ds => cases e; obtain ⟨p, _, rfl, _⟩ := k1; rfl
      | own i => cases e
      | pen => cases e; cases (show v1 = .ref C.pa from k1); rfl
      | exc c l => cases e; obtain ⟨p, rfl, _⟩ := k1; rfl
      | xv y => cases e; cases y <;> (obtain ⟨p, k1⟩ := k1; first | (obtain ⟨rfl, _⟩ := k1; rfl) | (obtain ⟨_, rfl, _⟩ := k1; rfl))
    | _ => cases e
  | _ => cases e
theorem o_isN : Op2 C (fun x y H Q => y = .non ∧ Q (.bl (decide (x = .non))) H) gIsN := fun ow mu σ H S v1 w1 v2 w2 w Q R k1 k2 e q => by
  obtain ⟨h1, rfl⟩ := isN_ok R k1 k2 e
  exact ⟨h1, q.flat R (.bl _)⟩
theorem o_notN : Op2 C (fun x y H Q => y = .non ∧ Q (.bl (!decide (x = .non))) H) gNotN := fun ow mu σ H S v1 w1 v2 w2 w Q R k1 k2 e q => by
  unfold gNotN at e
  cases e1 : gIsN S w1 w2 with
  | none => rw [e1] at e; cases e
  | some w' =>
    obtain ⟨h1, rfl⟩ := isN_ok R k1 k2 e1
    rw [e1] at e
    cases e
    exact ⟨h1, q.flat R (.bl _)⟩
def gIsB (neg : Bool) : Sx → W → W → Option W := fun _ a b => match wb a, wb b with
  | some x, some y => some (.d (.bool (if neg then !decide (x = y) else decide (x = y))))
  | _, _ => none
theorem o_isB : Op2 C rIsB (gIsB false) := fun ow mu σ H S v1 w1 v2 w2 w Q R k1 k2 e q => by
  unfold gIsB at e
  split at e
  · rename_i x y h1 h2; cases e; exact ⟨x, y, wb_ok k1 h1, wb_ok k2 h2, q.flat R (.bl _)⟩
  · cases e
theorem o_notB : Op2 C rNotB (gIsB true) := fun ow mu σ H S v1 w1 v2 w2 w Q R k1 k2 e q => by
  unfold gIsB at e
  split at e
  · rename_i x y h1 h2; cases e; exact ⟨x, y, wb_ok k1 h1, wb_ok k2 h2, q.flat R (.bl _)⟩
  · cases e
/-! in, not in: flat things -/
def flatsD : List PyData → Option (List V)
  | [] => some []
  | d :: ds => match flatD d, flatsD ds with
    | some v, some vs => some (v :: vs)
    | _, _ => none
theorem flatsD_inv {K : PySem.W.Frag} {G : Hp} : ∀ {ds : List PyData} {vs us : List V}, flatsD ds = some us → RpAll K G vs ds → vs = us
  | _, _, _, e, .nil => by cases e; rfl
  | d :: ds, _, us, e, .cons h r => by
    unfold flatsD at e
    split at e
    · rename_i v vs h1 h2; cases e; rw [flatD_inv h1 h, flatsD_inv h2 r]
    · cases e
theorem flatV_of {x : PyData} {v : V} (h : flatD x = some v) : flatV v = true := by cases x <;> cases h <;> rfl
theorem flatsV_of : ∀ {ds : List PyData} {us : List V}, flatsD ds = some us → us.all flatV = true
  | [], _, e => by cases e; rfl
  | d :: ds, us, e => by
    unfold flatsD at e
    split at e
    · rename_i v vs h1 h2; cases e; rw [List.all_cons, flatV_of h1, flatsV_of h2]; rfl
    · cases e
/-- a list or a tuple -/
def sview (S : Sx) (w : W) : Option (List PyData) := match wt w with
  | some ds => some ds
  | none => lview S w
def gIn (neg : Bool) : Sx → W → W → Option W := fun S a b => match dview S a, sview S b with
  | some x, some ds => match flatD x, flatsD ds with
    | some v, some vs => some (.d (.bool (if neg then !inV v vs else inV v vs)))
    | _, _ => none
  | _, _ => none
theorem sview_ok {ow mu : List Addr} {σ : L2.St} {H : Hp} {S : Sx} {v : V} {w : W} {ds : List PyData} (R : Rel C ow mu σ H S) (k : WOk C ow mu σ H S v w) (e : sview S w = some ds) : ∃ a vs, v = .ref a ∧ (H a = some (.lst vs) ∨ SqT C.K (hid ow H) a vs) ∧ RpAll C.K (hid ow H) vs ds := by
  unfold sview at e
  cases h : wt w with
  | some es => rw [h] at e; cases e; obtain ⟨a, vs, e1, h1, h2⟩ := wt_ok k h; exact ⟨a, vs, e1, .inr h1, h2⟩
  | none => rw [h] at e; obtain ⟨a, vs, e1, h1, h2⟩ := lview_ok R k e; exact ⟨a, vs, e1, .inl h1, h2⟩
theorem sq_or {K : PySem.W.Frag} {ow : List Addr} {H : Hp} {a : Addr} {vs : List V} (h : H a = some (.lst vs) ∨ SqT K (hid ow H) a vs) : SqL K H a vs ∨ SqT K H a vs := h.elim (fun h => .inl (.inl (.inl h))) fun h => .inr (sqT_sub hid_sub h)
theorem o_in (neg : Bool) : Op2 C (rIn C.K neg) (gIn neg) := fun ow mu σ H S v1 w1 v2 w2 w Q R k1 k2 e q => by
  unfold gIn at e
  split at e
  · rename_i x ds h1 h2
    split at e
    · rename_i v vs h3 h4
      cases e
      obtain ⟨a, us, rfl, ha, ra⟩ := sview_ok R k2 h2
      have e1 := flatD_inv h3 (dview_ok R k1 h1)
      have e2 := flatsD_inv h4 ra
      subst e1 e2
      exact ⟨a, _, rfl, sq_or ha, flatV_of h3, flatsV_of h4, q.flat R (.bl _)⟩
    · cases e
  · cases e
/-! items -/
theorem atI_rp {K : PySem.W.Frag} {G : Hp} {vs : List V} {ds : List PyData} {i : Int} {d : PyData} (r : RpAll K G vs ds) (h : atI ds i = some d) : ∃ v, atI vs i = some v ∧ Rp K G v d := by
  unfold atI at h
  cases e : ixN ds.length i with
  | none => rw [e] at h; cases h
  | some j =>
    rw [e] at h
    obtain ⟨v, h1, h2⟩ := r.get h
    refine ⟨v, ?_, h2⟩
    unfold atI
    rw [r.length, e]
    exact h1
def gIxL : Sx → W → W → Option W := fun S a b => match lview S a, wi b with
  | some ds, some i => (atI ds i).map .d
  | _, _ => none
theorem o_ixL : Op2 C (rIxL C.K) gIxL := fun ow mu σ H S v1 w1 v2 w2 w Q R k1 k2 e q => by
  unfold gIxL at e
  split at e
  · rename_i ds i h1 h2
    cases ea : atI ds i with
    | none => rw [ea] at e; cases e
    | some d =>
      rw [ea] at e
      cases e
      obtain ⟨a, vs, rfl, ha, ra⟩ := lview_ok R k1 h1
      obtain ⟨v, h3, h4⟩ := atI_rp ra ea
      exact ⟨a, vs, i, v, rfl, wi_ok k2 h2, .inl (.inl ha), h3, q.flat R h4⟩
  · cases e
def gIxT : Sx → W → W → Option W := fun S a b => match wt a, wi b with
  | some ds, some i => (atI ds i).map .d
  | _, _ => none
theorem o_ixT : Op2 C (rIxT C.K) gIxT := fun ow mu σ H S v1 w1 v2 w2 w Q R k1 k2 e q => by
  unfold gIxT at e
  split at e
  · rename_i ds i h1 h2
    cases ea : atI ds i with
    | none => rw [ea] at e; cases e
    | some d =>
      rw [ea] at e
      cases e
      obtain ⟨a, vs, rfl, ha, ra⟩ := wt_ok k1 h1
      obtain ⟨v, h3, h4⟩ := atI_rp ra ea
      exact ⟨a, vs, i, v, rfl, wi_ok k2 h2, sqT_sub hid_sub ha, h3, q.flat R h4⟩
  · cases e
def gIxS : Sx → W → W → Option W := fun S a b => match ws a, wi b with
  | some z, some i => if z.length ≤ 16777216 then (atI z.cps.toList i).map fun c => .d (.str ⟨#[c]⟩) else none
  | _, _ => none
theorem o_ixS : Op2 C rIxS gIxS := fun ow mu σ H S v1 w1 v2 w2 w Q R k1 k2 e q => by
  unfold gIxS at e
  split at e
  · rename_i z i h1 h2
    split at e
    · rename_i hc
      cases ea : atI z.cps.toList i with
      | none => rw [ea] at e; cases e
      | some c => rw [ea] at e; cases e; exact ⟨z, i, c, ws_ok k1 h1, wi_ok k2 h2, szl hc, ea, q.flat R (.str _)⟩
    · cases e
  · cases e
/-- pen[k] -/
def gIxP : Sx → W → W → Option W := fun S a b => match a, S.pen, wi b with
  | .pen, some π, some 0 => some (.d (.list (π.ns.map PyData.int)))
  | .pen, some π, some 1 => some (.d (.int π.i))
  | .pen, some π, some 2 => some (.d (.int π.z))
  | _, _, _ => none
theorem o_ixP : Op2 C (rIxL C.K) gIxP := fun ow mu σ H S v1 w1 v2 w2 w Q R k1 k2 e q => by
  unfold gIxP at e
  split at e
  · rename_i π h1 h2
    cases e
    obtain ⟨_, l, q1, q2⟩ := R.pen π h1
    exact ⟨C.pa, _, 0, .ref l, k1, wi_ok k2 h2, .inl (.inl q1), rfl, q.flat R (.lst q2 (RpAll.ints _))⟩
  · rename_i π h1 h2
    cases e
    obtain ⟨_, l, q1, q2⟩ := R.pen π h1
    exact ⟨C.pa, _, 1, .int π.i, k1, wi_ok k2 h2, .inl (.inl q1), rfl, q.flat R (.int _)⟩
  · rename_i π h1 h2
    cases e
    obtain ⟨_, l, q1, q2⟩ := R.pen π h1
    exact ⟨C.pa, _, 2, .int π.z, k1, wi_ok k2 h2, .inl (.inl q1), rfl, q.flat R (.int _)⟩
  · cases e
end
end Vf

set_option Elab.async false
set_option linter.all false
set_option maxRecDepth 100000
set_option maxHeartbeats 1000000
/-! Vf6: built-ins, methods, displays, slices, what is walked, comprehensions. -/
namespace Vf
open PySem PySem.Spec PyProof.Rows L2

def strsD : List PyData → Option (List Str)
  | [] => some []
  | .str s :: ds => (strsD ds).map (s :: ·)
  | _ => none
def boolsD : List PyData → Option (List Bool)
  | [] => some []
  | .bool s :: ds => (boolsD ds).map (s :: ·)
  | _ => none
def intsD : List PyData → Option (List Int)
  | [] => some []
  | .int s :: ds => (intsD ds).map (s :: ·)
  | _ => none
section
variable {K : PySem.W.Frag} {G : Hp}
theorem strsD_inv : ∀ {ds : List PyData} {ss : List Str} {vs : List V}, strsD ds = some ss → RpAll K G vs ds → vs = ss.map V.str
  | [], _, _, e, .nil => by cases e; rfl
  | d :: ds, ss, _, e, .cons h r => by
    cases d with
    | str s =>
      cases e1 : strsD ds with
      | none => simp [strsD, e1] at e
      | some ts => simp [strsD, e1] at e; subst e; rw [Rp.str_inv h, strsD_inv e1 r]; rfl
    | _ => simp [strsD] at e
theorem boolsD_inv : ∀ {ds : List PyData} {ss : List Bool} {vs : List V}, boolsD ds = some ss → RpAll K G vs ds → vs = ss.map V.bl
  | [], _, _, e, .nil => by cases e; rfl
  | d :: ds, ss, _, e, .cons h r => by
    cases d with
    | bool s =>
      cases e1 : boolsD ds with
      | none => simp [boolsD, e1] at e
      | some ts => simp [boolsD, e1] at e; subst e; rw [Rp.bl_inv h, boolsD_inv e1 r]; rfl
    | _ => simp [boolsD] at e
theorem intsD_inv : ∀ {ds : List PyData} {ss : List Int} {vs : List V}, intsD ds = some ss → RpAll K G vs ds → vs = ss.map V.int
  | [], _, _, e, .nil => by cases e; rfl
  | d :: ds, ss, _, e, .cons h r => by
    cases d with
    | int s =>
      cases e1 : intsD ds with
      | none => simp [intsD, e1] at e
      | some ts => simp [intsD, e1] at e; subst e; rw [Rp.int_inv h, intsD_inv e1 r]; rfl
    | _ => simp [intsD] at e
end
section
variable {C : Cn}
theorem wall1 {ow0 ow mu : List Addr} {σ : L2.St} {H : Hp} {S : Sx} {vs : List V} {w : W} (h : WAll C ow0 ow mu σ H S vs [w]) : ∃ v, vs = [v] ∧ WOk C ow mu σ H S v w := by
  cases h with
  | cons h n r => cases r; exact ⟨_, rfl, h⟩
theorem wall2 {ow0 ow mu : List Addr} {σ : L2.St} {H : Hp} {S : Sx} {vs : List V} {w u : W} (h : WAll C ow0 ow mu σ H S vs [w, u]) : ∃ v x, vs = [v, x] ∧ WOk C ow mu σ H S v w ∧ WOk C ow mu σ H S x u := by
  cases h with
  | cons h n r =>
    cases r with
    | cons h' n' r => cases r; exact ⟨_, _, rfl, h, h'⟩
/-! len, tuple, list, all, any, int, min, max, repr -/
def gLen : Sx → List W → Option W
  | S, [w] => match ws w with
    | some x => if x.length ≤ 16777216 then some (.d (.int x.length)) else none
    | none => (sview S w).map fun ds => .d (.int ds.length)
  | _, _ => none
theorem o_len : Opn C (fun xs H Q => ∃ x n, xs = [x] ∧ LenV C.K x H n ∧ Q (.int n) H) gLen := fun ow0 ow mu σ H S vs wl w Q R k e q => by
  match wl, k, e with
  | [u], k, e =>
    obtain ⟨v, rfl, k1⟩ := wall1 k
    replace e : (match ws u with
      | some x => if x.length ≤ 16777216 then some (W.d (.int x.length)) else none
      | none => (sview S u).map fun ds => W.d (.int ds.length)) = some w := e
    cases h1 : ws u with
    | some x =>
      rw [h1] at e
      dsimp only at e
      split at e
      · rename_i hc; cases e; exact ⟨v, x.length, rfl, by rw [ws_ok k1 h1]; exact ⟨szl hc, rfl⟩, q.flat R (.int _)⟩
      · cases e
    | none =>
      rw [h1] at e
      cases h2 : sview S u with
      | none => simp [h2] at e
      | some ds =>
        simp [h2] at e
        subst e
        obtain ⟨a, us, rfl, ha, ra⟩ := sview_ok R k1 h2
        refine ⟨.ref a, us.length, rfl, ?_, by rw [ra.length]; exact q.flat R (.int _)⟩
        rcases sq_or ha with z | z
        · exact .inl ⟨us, z, rfl⟩
        · exact .inr ⟨us, z, rfl⟩
  | [], k, e => cases e
  | _ :: _ :: _, k, e => cases e
def gTuple : Sx → List W → Option W
  | S, [w] => match wt w with
    | some ds => some (.d (.tuple ds))
    | none => (lview S w).map fun ds => .d (.tuple ds)
  | _, _ => none
theorem o_tuple : Opn C (fun xs H Q => ∃ p ys, xs = [.ref p] ∧ ((SqL C.K H p ys ∧ ∀ l, H l = none → Q (.ref l) (upd H l (.tup ys))) ∨ (SqT C.K H p ys ∧ Q (.ref p) H))) gTuple := fun ow0 ow mu σ H S vs wl w Q R k e q => by
  match wl, k, e with
  | [u], k, e =>
    obtain ⟨v, rfl, k1⟩ := wall1 k
    replace e : (match wt u with
      | some ds => some (W.d (.tuple ds))
      | none => (lview S u).map fun ds => W.d (.tuple ds)) = some w := e
    cases h1 : wt u with
    | some ds =>
      rw [h1] at e
      cases e
      obtain ⟨a, us, rfl, ha, ra⟩ := wt_ok k1 h1
      exact ⟨a, us, rfl, .inr ⟨sqT_sub hid_sub ha, q.flat R (.tup ha ra)⟩⟩
    | none =>
      rw [h1] at e
      cases h2 : lview S u with
      | none => simp [h2] at e
      | some ds =>
        simp [h2] at e
        subst e
        obtain ⟨a, us, rfl, ha, ra⟩ := lview_ok R k1 h2
        exact ⟨a, us, rfl, .inl ⟨.inl (.inl ha), fun l hl => q.newT R ra hl⟩⟩
  | [], k, e => cases e
  | _ :: _ :: _, k, e => cases e
def gList : Sx → List W → Option W
  | S, [w] => (sview S w).map fun ds => .new ds
  | _, _ => none
theorem o_list : Opn C (fun xs H Q => ∃ p ys, xs = [.ref p] ∧ (SqL C.K H p ys ∨ SqT C.K H p ys) ∧ ∀ l, H l = none → Q (.ref l) (upd H l (.lst ys))) gList := fun ow0 ow mu σ H S vs wl w Q R k e q => by
  match wl, k, e with
  | [u], k, e =>
    obtain ⟨v, rfl, k1⟩ := wall1 k
    replace e : (sview S u).map (fun ds => W.new ds) = some w := e
    cases h2 : sview S u with
    | none => simp [h2] at e
    | some ds =>
      simp [h2] at e
      subst e
      obtain ⟨a, us, rfl, ha, ra⟩ := sview_ok R k1 h2
      exact ⟨a, us, rfl, sq_or ha, fun l hl => q.newL R ra hl⟩
  | [], k, e => cases e
  | _ :: _ :: _, k, e => cases e
def gBools (f : List Bool → Bool) : Sx → List W → Option W
  | S, [w] => ((lview S w).bind boolsD).map fun bs => .d (.bool (f bs))
  | _, _ => none
theorem o_bools (f : List Bool → Bool) : Opn C (fun vs H Q => ∃ (a : Addr) (bs : List Bool), vs = [V.ref a] ∧ SqL C.K H a (bs.map V.bl) ∧ Q (.bl (f bs)) H) (gBools f) := fun ow0 ow mu σ H S vs wl w Q R k e q => by
  match wl, k, e with
  | [u], k, e =>
    obtain ⟨v, rfl, k1⟩ := wall1 k
    replace e : ((lview S u).bind boolsD).map (fun bs => W.d (.bool (f bs))) = some w := e
    cases h2 : lview S u with
    | none => simp [h2] at e
    | some ds =>
      cases h3 : boolsD ds with
      | none => simp [h2, h3] at e
      | some bs =>
        simp [h2, h3] at e
        subst e
        obtain ⟨a, us, rfl, ha, ra⟩ := lview_ok R k1 h2
        exact ⟨a, bs, rfl, by rw [← boolsD_inv h3 ra]; exact .inl (.inl ha), q.flat R (.bl _)⟩
  | [], k, e => cases e
  | _ :: _ :: _, k, e => cases e
def gAll := gBools fun bs => bs.all id
def gAny := gBools fun bs => bs.any id
theorem o_all : Opn C (rAll C.K) gAll := o_bools _
theorem o_any : Opn C (rAny C.K) gAny := o_bools _
def gInt : Sx → List W → Option W
  | _, [w] => (wi w).map fun i => .d (.int i)
  | _, _ => none
theorem o_int : Opn C (fun xs H Q => (∃ i, xs = [.int i] ∧ Q (.int i) H) ∨ ∃ k, xs = [.bl k] ∧ Q (.int (if k then 1 else 0)) H) gInt := fun ow0 ow mu σ H S vs wl w Q R k e q => by
  match wl, k, e with
  | [u], k, e =>
    obtain ⟨v, rfl, k1⟩ := wall1 k
    replace e : (wi u).map (fun i => W.d (.int i)) = some w := e
    cases h2 : wi u with
    | none => simp [h2] at e
    | some i => simp [h2] at e; subst e; exact .inl ⟨i, by rw [wi_ok k1 h2], q.flat R (.int _)⟩
  | [], k, e => cases e
  | _ :: _ :: _, k, e => cases e
def gI2 (f : Int → Int → Int) : Sx → List W → Option W
  | _, [a, b] => match wi a, wi b with
    | some i, some j => some (.d (.int (f i j)))
    | _, _ => none
  | _, _ => none
theorem o_I2 (f : Int → Int → Int) : Opn C (fun xs H Q => ∃ i j, xs = [.int i, .int j] ∧ Q (.int (f i j)) H) (gI2 f) := fun ow0 ow mu σ H S vs wl w Q R k e q => by
  match wl, k, e with
  | [u, t], k, e =>
    obtain ⟨v, x, rfl, k1, k2⟩ := wall2 k
    replace e : (match wi u, wi t with
      | some i, some j => some (W.d (.int (f i j)))
      | _, _ => none) = some w := e
    split at e
    · rename_i i j h1 h2; cases e; exact ⟨i, j, by rw [wi_ok k1 h1, wi_ok k2 h2], q.flat R (.int _)⟩
    · cases e
  | [], k, e => cases e
  | [_], k, e => cases e
  | _ :: _ :: _ :: _, k, e => cases e
def gMin := gI2 fun i j => if j < i then j else i
def gMax := gI2 fun i j => if j > i then j else i
theorem o_min : Opn C (fun xs H Q => ∃ i j, xs = [.int i, .int j] ∧ Q (.int (if j < i then j else i)) H) gMin := o_I2 _
theorem o_max : Opn C (fun xs H Q => ∃ i j, xs = [.int i, .int j] ∧ Q (.int (if j > i then j else i)) H) gMax := o_I2 _
def gRepr : Sx → List W → Option W
  | S, [w] => match dview S w with
    | some x => if reprOk x then some (.d (.str x.shown)) else none
    | none => none
  | _, _ => none
theorem o_repr : Opn C (rReprD C.K) gRepr := fun ow0 ow mu σ H S vs wl w Q R k e q => by
  match wl, k, e with
  | [u], k, e =>
    obtain ⟨v, rfl, k1⟩ := wall1 k
    replace e : (match dview S u with
      | some x => if reprOk x then some (W.d (.str x.shown)) else none
      | none => none) = some w := e
    split at e
    · rename_i x h1
      split at e
      · rename_i hc; cases e; exact ⟨v, x, rfl, dview_ok R k1 h1, hc, q.flat R (.str _)⟩
      · cases e
    · cases e
  | [], k, e => cases e
  | _ :: _ :: _, k, e => cases e
/-! methods of texts with one argument -/
def Opm (C : Cn) (r : V → List V → Hp → VK → Prop) (g : Sx → W → W → Option W) : Prop := ∀ ow mu σ H S v1 w1 v2 w2 w Q, Rel C ow mu σ H S → WOk C ow mu σ H S v1 w1 → WOk C ow mu σ H S v2 w2 → g S w1 w2 = some w → Res C ow mu σ H S w Q → r v1 [v2] H Q
def gS (g : Sx → W → W → Option W) : Sx → W → W → Option W := fun S a b => match ws a with
  | some _ => g S a b
  | none => none
def mM1 (g : Sx → W → W → Option W) (mo me : ME) : ME := fun S => (mo S).bind fun a S1 => match ws a with
  | none => .bad
  | some _ => (me S1).bind fun b S2 => RE.of (g S2 a b) S2
theorem tM1_of {Wx : WX} {r : V → List V → Hp → VK → Prop} {g : Sx → W → W → Option W} {mo me : ME} (ho : Opm C r g) (sb : ShpM me) : ∀ σ H Q, tM C Wx (mM1 g mo me) σ H Q → tM1 r (tM C Wx mo) (tM C Wx me) σ H Q := by
  rintro σ H Q ⟨ow, mu, S, R, h⟩
  refine ⟨ow, mu, S, R, Post.bind R.sub h fun a S1 v1 H1 ow1 e1 g1 p1 R1 k1 h1 => ?_⟩
  cases ew : ws a with
  | none => rw [ew] at h1; exact h1.elim
  | some z =>
    rw [ew] at h1
    refine ⟨⟨z, ws_ok k1.1 ew⟩, ow1, mu, S1, R1, Post.bind R1.sub h1 fun b S2 v2 H2 ow2 e2 g2 p2 R2 k2 h2 => ?_⟩
    obtain ⟨y, e3, h3⟩ := Post.of h2
    exact ho ow2 mu σ H2 S2 v1 a v2 b y Q R2 (k1.1.later R1.sub g2 p2 (sb _ _ _ e2)) k2.1 e3 (Res.of h3 R2)
theorem shp_M1 {g : Sx → W → W → Option W} {mo me : ME} (ha : ShpM mo) (hb : ShpM me) : ShpM (mM1 g mo me) := shp_bind ha fun a => by
  cases ws a with
  | none => exact fun _ _ _ e => nomatch e
  | some _ => exact shp_bind hb fun _ => shp_of
def gJoin : Sx → W → W → Option W := fun S a b => match ws a, (sview S b).bind strsD with
  | some z, some ss => if (ss.map (·.length)).sum + ss.length * z.length ≤ 16777216 then some (.d (.str (Txt.join z ss))) else none
  | _, _ => none
theorem o_join : Opm C (fun x xs H Q => ∃ a p, ∃ ys : List Str, x = .str a ∧ xs = [.ref p] ∧ (SqL C.K H p (ys.map V.str) ∨ SqT C.K H p (ys.map V.str)) ∧ (ys.map (·.length)).sum + ys.length * a.length ≤ 16777216 ∧ Q (.str (Txt.join a ys)) H) gJoin := fun ow mu σ H S v1 w1 v2 w2 w Q R k1 k2 e q => by
  unfold gJoin at e
  split at e
  · rename_i z ss h1 h2
    split at e
    · rename_i hc
      cases e
      cases h3 : sview S w2 with
      | none => simp [h3] at h2
      | some ds =>
        simp [h3] at h2
        obtain ⟨a, us, rfl, ha, ra⟩ := sview_ok R k2 h3
        have := strsD_inv h2 ra
        subst this
        exact ⟨z, a, ss, ws_ok k1 h1, rfl, sq_or ha, hc, q.flat R (.str _)⟩
    · cases e
  · cases e
def gSplit : Sx → W → W → Option W := fun _ a b => match ws a, ws b with
  | some x, some y => if !(y.length == 0) && decide (x.length + 2 ≤ 16777216) then some (.new ((Txt.split x y).map PyData.str)) else none
  | _, _ => none
theorem rp_strs {K : PySem.W.Frag} {G : Hp} : ∀ ss : List Str, RpAll K G (ss.map V.str) (ss.map PyData.str)
  | [] => .nil
  | s :: ss => .cons (.str s) (rp_strs ss)
theorem o_split : Opm C (fun x xs H Q => ∃ a b, x = .str a ∧ xs = [.str b] ∧ (b.length == 0) = false ∧ a.length + 2 ≤ sizeLine ∧ rNewStrs (Txt.split a b) H Q) gSplit := fun ow mu σ H S v1 w1 v2 w2 w Q R k1 k2 e q => by
  unfold gSplit at e
  split at e
  · rename_i x y h1 h2
    split at e
    · rename_i hc
      simp only [Bool.and_eq_true, Bool.not_eq_true', decide_eq_true_eq] at hc
      cases e
      exact ⟨x, y, ws_ok k1 h1, by rw [ws_ok k2 h2], hc.1, szl hc.2, fun p hp => q.newL R (rp_strs _) hp⟩
    · cases e
  · cases e
end
section
variable {C : Cn} {Wx : WX} {X : Cx} {a b o e : Expr} {es : List Expr} {ma mb me mo : ME} {ms : MA} {pos p : Pos}
theorem je_join {apos : Pos} (hx : Hx C X) (ho : JE C Wx X o mo) (he : JE C Wx X e me) (hs : starEach [e] X.env = [(false, eval e X.env)] := by rfl) (hbase : attributeBase o "join" X.env (eval o X.env) = eval o X.env := by rfl) (hline : (apos.endLine == pos.line) = true := by rfl) :
    JE C Wx X (.Call (.Attribute o "join" apos) [e] [] pos) (mM1 gJoin mo me) := ⟨(pe_join ho.pe he.pe hs hbase hline).weak (by rw [hx.hK]; exact tM1_of o_join he.shp), shp_M1 ho.shp he.shp⟩
theorem je_split {apos : Pos} (ho : JE C Wx X o mo) (he : JE C Wx X e me) (hs : starEach [e] X.env = [(false, eval e X.env)] := by rfl) (hbase : attributeBase o "split" X.env (eval o X.env) = eval o X.env := by rfl) (hline : (apos.endLine == pos.line) = true := by rfl) :
    JE C Wx X (.Call (.Attribute o "split" apos) [e] [] pos) (mM1 gSplit mo me) := ⟨(pe_split ho.pe he.pe hs hbase hline).weak (tM1_of o_split he.shp), shp_M1 ho.shp he.shp⟩

/-! isinstance(e, T), T built-in -/
inductive Ty | non | bl | int | str | lst | tup | dct
  deriving DecidableEq
def Ty.nm : Ty → String
  | .non => "NoneType"
  | .bl => "bool"
  | .int => "int"
  | .str => "str"
  | .lst => "list"
  | .tup => "tuple"
  | .dct => "dict"
def tyD : PyData → Ty
  | .none => .non
  | .bool _ => .bl
  | .int _ => .int
  | .str _ => .str
  | .list _ => .lst
  | .tuple _ => .tup
  | .dict _ => .dct
def isT (t T : Ty) : Bool := decide (t = T) || (decide (t = .bl) && decide (T = .int))
theorem kit_isT : ∀ t T : Ty, T ≠ .non → kitB t.nm T.nm = some (isT t T) := by
  intro t T h
  cases T <;> first | exact absurd rfl h | (cases t <;> decide +kernel)
theorem tyX_of {K : PySem.W.Frag} {H : Hp} {v : V} {x : PyData} (r : Rp K H v x) : TyX K H v (.type (tyD x).nm) := by
  cases r with
  | non => exact .base .non
  | bl b => exact .base (.bl b)
  | int i => exact .base (.int i)
  | str x => exact .base (.str x)
  | lst h _ => exact .base (.lst h)
  | tup h _ =>
    rcases h with (h | ⟨o, h⟩) | ⟨o, its, n, h, c, _⟩
    · exact .base (.tup h)
    · exact .fTuple h
    · exact .kTuple h c
  | dct h => exact .base (.dK h)
def gIsi (T : Ty) : Sx → W → Option W := fun S a => (dview S a).map fun x => .d (.bool (isT (tyD x) T))
theorem je_isi {T : Ty} {tn : Str} {q : Pos} (hx : Hx C X) (he : JE C Wx X e me) (hT : T ≠ .non) (ht : PE X (.Name tn q) (tC (.ty T.nm))) (hg : Gl X "isinstance") (hm : X.mg "isinstance" = none) (hs : starEach (e :: [.Name tn q]) X.env = (false, eval e X.env) :: starEach [.Name tn q] X.env := by rfl) (hpl : (backTo pos (starEach [.Name tn q] X.env)).any (·.1) = false := by rfl) :
    JE C Wx X (.Call (.Name "isinstance" p) [e, .Name tn q] [] pos) (mUn (gIsi T) me) where
  pe := (pe_callB (call_isi (X := X)) hg hm (by decide +kernel) (pa_cons he.pe (pa_cons ht pa_nil) hs) (by decide) (by decide) hs hpl).weak fun σ H Q ⟨ow, mu, S, R, h⟩ => by
    refine ⟨ow, mu, S, R, Post.bind R.sub h fun x S1 v1 H1 ow1 e1 g1 p1 R1 k1 h1 => ?_⟩
    obtain ⟨z, e3, h3⟩ := Post.of h1
    unfold gIsi at e3
    cases hd : dview S1 x with
    | none => rw [hd] at e3; cases e3
    | some y =>
      rw [hd] at e3
      cases e3
      rw [hx.hK]
      exact ⟨v1, .ty T.nm, _, _, _, rfl, .ty _, tyX_of (dview_ok R1 k1.1 hd), kit_ty (kit_isT _ _ hT), h3.now R1 ⟨.bl _, WNew.d⟩⟩
  shp := shp_un he.shp

/-! displays -/
def argD : W → Option PyData
  | .d x => some x
  | .new ds => some (.list ds)
  | _ => none
def argDs : List W → Option (List PyData)
  | [] => some []
  | w :: ws => match argD w, argDs ws with
    | some a, some as => some (a :: as)
    | _, _ => none
theorem argDs_ok {ow ow' mu : List Addr} {σ : L2.St} {H : Hp} {S : Sx} (s : ∀ b ∈ ow, b ∈ ow') : ∀ {vs : List V} {wl : List W} {ds : List PyData}, WAll C ow ow' mu σ H S vs wl → argDs wl = some ds → RpAll C.K (hid ow H) vs ds
  | _, _, _, .nil, e => by cases e; exact .nil
  | _, _, _, .cons (w := w) (ws := ws) h n k, e => by
    unfold argDs at e
    split at e
    · rename_i a as h1 h2
      cases e
      refine .cons ?_ (argDs_ok s k h2)
      cases w with
      | d x => cases h1; exact Rp.mono (hid_anti s) h
      | new ds =>
        cases h1
        obtain ⟨p, xs, rfl, _, _, h3, h4⟩ := h
        exact .lst (hid_at (n ds rfl p rfl) h3) (h4.mono (hid_anti s))
      | _ => cases h1
    · cases e
def mTup (ms : MA) : ME := fun S => (ms S).bind fun wl S1 => match argDs wl with
  | some ds => if ds.length ≤ 16777216 then .ok (.d (.tuple ds)) S1 else .bad
  | none => .bad
def mLst (ms : MA) : ME := fun S => (ms S).bind fun wl S1 => match argDs wl with
  | some ds => if ds.length ≤ 16777216 then .ok (.new ds) S1 else .bad
  | none => .bad
theorem shp_disp {f : List PyData → W} (h : ShpM ms) : ShpM (fun S => (ms S).bind fun wl S1 => match argDs wl with
  | some ds => if ds.length ≤ 16777216 then .ok (f ds) S1 else .bad
  | none => .bad) := shp_bind h fun wl => by
    cases argDs wl with
    | none => exact fun _ _ _ e => nomatch e
    | some ds =>
      intro S w S' e
      replace e : (if ds.length ≤ 16777216 then RE.ok (f ds) S else .bad) = .ok w S' := e
      split at e
      · cases e; exact Shp.refl S
      · cases e
theorem je_tup {k : Nat} (h : JA C Wx X es ms) : JE C Wx X (.Tuple es k pos) (mTup ms) where
  pe := (pe_tup h.pa).weak fun σ H Q ⟨ow, mu, S, R, q⟩ => by
    refine ⟨ow, mu, S, R, Post.bind0 (Grow.refl H ow) (Pres.refl H) R.sub q fun wl S1 vs H1 ow1 e1 g1 p1 R1 k1 h1 => ?_⟩
    cases ea : argDs wl with
    | none => rw [ea] at h1; exact h1.elim
    | some ds =>
      rw [ea] at h1
      dsimp only at h1
      by_cases hz : ds.length ≤ 16777216
      · rw [if_pos hz] at h1
        have rp := argDs_ok g1.1 k1 ea
        have Rl : Rel C ow mu σ H1 S1 := R1.less g1.1 R.sub R.paH R.gro.1
        exact ⟨szl (by rw [rp.length]; exact hz), fun p hp => (Res.of (Post.shift ((Grow.refl H ow).trans p1 R.sub (Grow.refl H1 ow)) p1 R.sub h1) Rl).newT Rl rp hp⟩
      · rw [if_neg hz] at h1; exact h1.elim
  shp := shp_disp h.shp
theorem je_lst (h : JA C Wx X es ms) : JE C Wx X (.List es pos) (mLst ms) where
  pe := (pe_lst h.pa).weak fun σ H Q ⟨ow, mu, S, R, q⟩ => by
    refine ⟨ow, mu, S, R, Post.bind0 (Grow.refl H ow) (Pres.refl H) R.sub q fun wl S1 vs H1 ow1 e1 g1 p1 R1 k1 h1 => ?_⟩
    cases ea : argDs wl with
    | none => rw [ea] at h1; exact h1.elim
    | some ds =>
      rw [ea] at h1
      dsimp only at h1
      by_cases hz : ds.length ≤ 16777216
      · rw [if_pos hz] at h1
        have rp := argDs_ok g1.1 k1 ea
        have Rl : Rel C ow mu σ H1 S1 := R1.less g1.1 R.sub R.paH R.gro.1
        exact ⟨szl (by rw [rp.length]; exact hz), fun p hp => (Res.of (Post.shift ((Grow.refl H ow).trans p1 R.sub (Grow.refl H1 ow)) p1 R.sub h1) Rl).newL Rl rp hp⟩
      · rw [if_neg hz] at h1; exact h1.elim
  shp := shp_disp h.shp
/-- {} -/
theorem je_dct0 : JE C Wx X (.Dict [] [] pos) (mC (.dict [])) where
  pe := pe_dnewK.weak fun σ H Q ⟨ow, mu, S, R, q⟩ => fun d hd => by
    have np := new_out R hd
    exact (Res.of q R) (.ref d) _ ow (Grow.refl H ow) (sub_upd hd) (trk_upd R) (.dct (hid_at np upd_same)) WNew.d
  shp := shp_ok

/-! slices -/
instance : Says (Option Int) (Option Int) where
  ok := fun _ _ _ _ _ _ _ b a => b = a
  anti := fun _ h => h
abbrev MO := Sx → RE (Option Int)
structure JO (C : Cn) (Wx : WX) (X : Cx) (e : Option Expr) (m : MO) : Prop where
  po : PO X e (tM C Wx m)
  shp : ShpM m
theorem po_weak {e : Option Expr} {t t' : TO} (h : PO X e t) (w : ∀ σ H Q, t' σ H Q → t σ H Q) : PO X e t' := ⟨fun pins s σ H Q I q => h.run pins s σ H Q I (w _ _ _ q)⟩
def mNoPart : MO := fun S => .ok none S
def mPart (me : ME) : MO := fun S => (me S).bind fun w S1 => match wi w with
  | some i => .ok (some i) S1
  | none => .bad
theorem jo_none : JO C Wx X none mNoPart := ⟨po_weak po_none fun σ H Q ⟨ow, mu, S, R, h⟩ => Post.now (a := none) h R rfl, shp_ok⟩
theorem jo_some (h : JE C Wx X e me) : JO C Wx X (some e) (mPart me) := ⟨po_weak (po_some h.pe) fun σ H Q ⟨ow, mu, S, R, q⟩ => ⟨ow, mu, S, R, Post.bind R.sub q fun w S1 v H1 ow1 e1 g p R1 k h1 => by
    cases ew : wi w with
    | none => rw [ew] at h1; exact h1.elim
    | some i => rw [ew] at h1; exact ⟨i, wi_ok k.1 ew, Post.now (a := some i) h1 R1 rfl⟩⟩, shp_bind h.shp fun w => by
    cases wi w with
    | none => exact fun _ _ _ e => nomatch e
    | some i => exact shp_ok⟩
def Ops (C : Cn) (r : V → Option Int → Option Int → Hp → VK → Prop) (g : Sx → W → Option Int → Option Int → Option W) : Prop := ∀ ow mu σ H S v1 w1 lo hi w Q, Rel C ow mu σ H S → WOk C ow mu σ H S v1 w1 → g S w1 lo hi = some w → Res C ow mu σ H S w Q → r v1 lo hi H Q
def mSl (g : Sx → W → Option Int → Option Int → Option W) (me : ME) (ml mh : MO) : ME := fun S => (me S).bind fun w S1 => (ml S1).bind fun lo S2 => (mh S2).bind fun hi S3 => RE.of (g S3 w lo hi) S3
theorem je_slice {r : V → Option Int → Option Int → Hp → VK → Prop} {g : Sx → W → Option Int → Option Int → Option W} {lo hi : Option Expr} {ml mh : MO} {p2 : Pos} (hr : L2.SlR X r) (ho : Ops C r g) (he : JE C Wx X e me) (hl : JO C Wx X lo ml) (hu : JO C Wx X hi mh) : JE C Wx X (.Subscript e (.Slice lo hi none p2) pos) (mSl g me ml mh) :=
  ⟨(pe_slice hr he.pe hl.po hu.po).weak fun σ H Q ⟨ow, mu, S, R, h⟩ => ⟨ow, mu, S, R, Post.bind R.sub h fun w S1 v H1 ow1 e1 g1 p1 R1 k1 h1 => ⟨ow1, mu, S1, R1, Post.bind R1.sub h1 fun l S2 b2 H2 ow2 e2 g2 p2 R2 k2 h2 => by
    cases (show b2 = l from k2)
    exact ⟨ow2, mu, S2, R2, Post.bind R2.sub h2 fun u S3 b3 H3 ow3 e3 g3 p3 R3 k3 h3 => by
      cases (show b3 = u from k3)
      obtain ⟨z, e4, h4⟩ := Post.of h3
      exact ho ow3 mu σ H3 S3 v w l u z Q R3 ((k1.1.later R1.sub g2 p2 (hl.shp _ _ _ e2)).later R2.sub g3 p3 (hu.shp _ _ _ e3)) e4 (Res.of h4 R3)⟩⟩⟩,
   shp_bind he.shp fun _ => shp_bind hl.shp fun _ => shp_bind hu.shp fun _ => shp_of⟩
def cutD (xs : List PyData) (lo hi : Option Int) : List PyData := (xs.drop (HT.sIx xs.length 0 lo)).take (HT.sIx xs.length xs.length hi - HT.sIx xs.length 0 lo)
theorem cutD_rp {K : PySem.W.Frag} {G : Hp} {vs : List V} {ds : List PyData} (r : RpAll K G vs ds) (lo hi : Option Int) : RpAll K G (cutV vs lo hi) (cutD ds lo hi) := by
  unfold cutV cutD
  rw [r.length]
  exact (r.drop _).take _
def gSlL : Sx → W → Option Int → Option Int → Option W := fun S w lo hi => (lview S w).map fun ds => .new (cutD ds lo hi)
theorem o_slL : Ops C (rSlL C.K) gSlL := fun ow mu σ H S v1 w1 lo hi w Q R k e q => by
  unfold gSlL at e
  cases h : lview S w1 with
  | none => rw [h] at e; cases e
  | some ds =>
    rw [h] at e
    cases e
    obtain ⟨a, vs, rfl, ha, ra⟩ := lview_ok R k h
    exact ⟨a, vs, rfl, .inl (.inl ha), fun p hp => q.newL R (cutD_rp ra lo hi) hp⟩
def gSlT : Sx → W → Option Int → Option Int → Option W := fun S w lo hi => (wt w).map fun ds => .d (.tuple (cutD ds lo hi))
theorem o_slT : Ops C (rSlA C.K) gSlT := fun ow mu σ H S v1 w1 lo hi w Q R k e q => by
  unfold gSlT at e
  cases h : wt w1 with
  | none => rw [h] at e; cases e
  | some ds =>
    rw [h] at e
    cases e
    obtain ⟨a, vs, rfl, ha, ra⟩ := wt_ok k h
    refine ⟨a, vs, rfl, sqT_sub hid_sub ha, fun ⟨z1, z2⟩ => ?_, fun _ p hp => q.newT R (cutD_rp ra lo hi) hp⟩
    have : cutD ds lo hi = ds := by
      rw [ra.length] at z1 z2
      unfold cutD
      rw [z1, z2, List.drop_zero, Nat.sub_zero, List.take_length]
    dsimp only at q
    rw [this] at q
    exact q.flat R (.tup ha ra)
def gSlS : Sx → W → Option Int → Option Int → Option W := fun S w lo hi => match ws w with
  | some z => if z.length ≤ 16777216 then some (.d (.str (cutS z lo hi))) else none
  | none => none
theorem o_slS : Ops C rSlS gSlS := fun ow mu σ H S v1 w1 lo hi w Q R k e q => by
  unfold gSlS at e
  split at e
  · rename_i z h
    split at e
    · rename_i hc; cases e; exact ⟨z, ws_ok k h, szl hc, q.flat R (.str _)⟩
    · cases e
  · cases e

/-! ### what is walked -/
theorem walks_list {ow mu : List Addr} {H : Hp} {a : Addr} {vs : List V} {ds : List PyData} (s : ∀ b ∈ mu, b ∈ ow) (ha : H a = some (.lst vs)) (na : a ∉ mu) (ra : RpAll C.K (hid ow H) vs ds) : WalksD C.K mu ow H (Itl C.K a) ds where
  stop := fun H' p => ⟨vs, .inl (.inl (p _ _ na (by intro _ z; cases z) ha)), by rw [ra.length]; exact Nat.le_refl _⟩
  go := fun i H' hi p => ⟨vs, vs[i]'(by rw [ra.length]; exact hi), .inl (.inl (p _ _ na (by intro _ z; cases z) ha)), List.getElem?_eq_getElem _⟩
  yld := fun i H' x H'' hi p y => by
    obtain ⟨rfl, y⟩ := y
    obtain ⟨v, h1, h2⟩ := ra.get (i := i) (d := ds[i]) (List.getElem?_eq_getElem hi)
    have e := y vs (.inl (.inl (p _ _ na (by intro _ z; cases z) ha)))
    rw [h1] at e
    cases e
    exact ⟨ds[i], List.getElem?_eq_getElem hi, Sub.refl _, fun ow2 g t => h2.mono (hid_grow g s p)⟩
theorem walks_tup {ow mu : List Addr} {H : Hp} {a : Addr} {vs : List V} {ds : List PyData} (s : ∀ b ∈ mu, b ∈ ow) (ha : SqT C.K (hid ow H) a vs) (ra : RpAll C.K (hid ow H) vs ds) : WalksD C.K mu ow H (Itt C.K a) ds where
  stop := fun H' p => ⟨vs, sqT_sub (fun _ _ z => hid_sub _ _ (hid_pres s p _ _ z)) ha, by rw [ra.length]; exact Nat.le_refl _⟩
  go := fun i H' hi p => ⟨vs, vs[i]'(by rw [ra.length]; exact hi), sqT_sub (fun _ _ z => hid_sub _ _ (hid_pres s p _ _ z)) ha, List.getElem?_eq_getElem _⟩
  yld := fun i H' x H'' hi p y => by
    obtain ⟨rfl, y⟩ := y
    obtain ⟨v, h1, h2⟩ := ra.get (i := i) (d := ds[i]) (List.getElem?_eq_getElem hi)
    have e := y vs (sqT_sub (fun _ _ z => hid_sub _ _ (hid_pres s p _ _ z)) ha)
    rw [h1] at e
    cases e
    exact ⟨ds[i], List.getElem?_eq_getElem hi, Sub.refl _, fun ow2 g t => h2.mono (hid_grow g s p)⟩
def rngD (lo : Int) (n : Nat) : List PyData := (List.range n).map fun (k : Nat) => .int (lo + (k : Int))
theorem walks_rng {mu ow : List Addr} {H : Hp} (lo : Int) (n : Nat) : WalksD C.K mu ow H (Itr lo n) (rngD lo n) where
  stop := fun H' p => by simp [rngD, Itr]
  go := fun i H' hi p => by simpa [rngD, Itr] using hi
  yld := fun i H' x H'' hi p y => by
    obtain ⟨rfl, rfl⟩ := y
    have hi' : i < n := by simpa [rngD] using hi
    exact ⟨.int (lo + i), by simp [rngD, hi'], Sub.refl _, fun _ _ _ => .int _⟩
def signsD (x : Str) : List PyData := x.cps.toList.map fun c => .str ⟨#[c]⟩
theorem walks_str {mu ow : List Addr} {H : Hp} (x : Str) : WalksD C.K mu ow H (Its x) (signsD x) where
  stop := fun H' p => by simp [signsD, Its]
  go := fun i H' hi p => by simpa [signsD, Its] using hi
  yld := fun i H' v H'' hi p y => by
    obtain ⟨rfl, c, hc, rfl⟩ := y
    refine ⟨.str ⟨#[c]⟩, ?_, Sub.refl _, fun _ _ _ => .str _⟩
    simp only [signsD, List.getElem?_map, Array.getElem?_toList, hc, Option.map_some]
/-- a list that is walked: not one that is changed -/
def itl (S : Sx) : W → Option (List PyData)
  | .own _ => none
  | w => lview S w
def mItL (me : ME) : MI := fun S => (me S).bind fun w S1 => RE.of (itl S1 w) S1
def mItT (me : ME) : MI := fun S => (me S).bind fun w S1 => RE.of (wt w) S1
def mItS (me : ME) : MI := fun S => (me S).bind fun w S1 => match ws w with
  | some x => .ok (signsD x) S1
  | none => .bad
def rg1 (w : W) : Option (List PyData) := match wi w with
  | some j => if -(2 ^ 62) ≤ j ∧ j < 2 ^ 62 then some (rngD 0 j.toNat) else none
  | none => none
def rg2 (u w : W) : Option (List PyData) := match wi u, wi w with
  | some i, some j => if -(2 ^ 62) ≤ i ∧ i < 2 ^ 62 ∧ -(2 ^ 62) ≤ j ∧ j < 2 ^ 62 then some (rngD i (j - i).toNat) else none
  | _, _ => none
def mItR1 (ma : ME) : MI := fun S => (ma S).bind fun w S1 => RE.of (rg1 w) S1
def mItR2 (ma mb : ME) : MI := fun S => (ma S).bind fun u S1 => (mb S1).bind fun w S2 => RE.of (rg2 u w) S2
variable {tg : Expr}
theorem ji_list (hx : Hx C X) (h : JE C Wx X e me) : JI C Wx X tg e (mItL me) where
  pi := by
    have := pi_list (tg := tg) h.pe
    refine ⟨fun pins s σ H Rr I ⟨ow, mu, S, R, q⟩ => this.run pins s σ H Rr I ⟨ow, mu, S, R, Post.bind0 (Grow.refl H ow) (Pres.refl H) R.sub q fun w S1 v H1 ow1 e1 g1 p1 R1 k1 h1 => ?_⟩⟩
    obtain ⟨ds, e2, h2⟩ := Post.ofG h1
    have el : lview S1 w = some ds ∧ ∀ i, w ≠ .own i := by
      cases w with
      | own i => cases e2
      | _ => exact ⟨e2, fun _ z => nomatch z⟩
    obtain ⟨a, vs, rfl, ha, ra⟩ := lview_ok R1 k1.1 el.1
    rw [hx.hK]
    refine ⟨a, rfl, ⟨vs, .inl (.inl ha)⟩, h2 _ H1 ow1 g1 p1 R1 (walks_list (C := C) g1.1 ha (fun z => ?_) ra)⟩
    cases w with
    | own i => exact el.2 i rfl
    | new es => exact k1.2 es rfl a rfl z
    | d x =>
      cases x with
      | list es => obtain ⟨p, _, e3, h3, _⟩ := Rp.lst_inv k1.1; cases e3; exact (hid_some h3).1 (g1.1 _ z)
      | _ => cases el.1
    | _ => cases el.1
  shp := shp_bind h.shp fun _ => shp_of
theorem ji_tup (hx : Hx C X) (h : JE C Wx X e me) : JI C Wx X tg e (mItT me) where
  pi := by
    have := pi_tup (tg := tg) h.pe
    refine ⟨fun pins s σ H Rr I ⟨ow, mu, S, R, q⟩ => this.run pins s σ H Rr I ⟨ow, mu, S, R, Post.bind R.sub q fun w S1 v H1 ow1 e1 g1 p1 R1 k1 h1 => ?_⟩⟩
    obtain ⟨ds, e2, h2⟩ := Post.ofG h1
    obtain ⟨a, vs, rfl, ha, ra⟩ := wt_ok k1.1 e2
    rw [hx.hK]
    exact ⟨a, rfl, ⟨vs, sqT_sub hid_sub ha⟩, h2.now R1 (walks_tup (fun _ z => z) ha ra)⟩
  shp := shp_bind h.shp fun _ => shp_of
theorem ji_str (h : JE C Wx X e me) : JI C Wx X tg e (mItS me) where
  pi := by
    have := pi_str (tg := tg) h.pe
    refine ⟨fun pins s σ H Rr I ⟨ow, mu, S, R, q⟩ => this.run pins s σ H Rr I ⟨ow, mu, S, R, Post.bind R.sub q fun w S1 v H1 ow1 e1 g1 p1 R1 k1 h1 => ?_⟩⟩
    cases ew : ws w with
    | none => rw [ew] at h1; exact h1.elim
    | some x => rw [ew] at h1; exact ⟨x, ws_ok k1.1 ew, Post.now (a := signsD x) h1 R1 (walks_str x)⟩
  shp := shp_bind h.shp fun w => by
    cases ws w with
    | none => exact fun _ _ _ e => nomatch e
    | some x => exact shp_ok
theorem ji_range1 (h : JE C Wx X a ma) (hm : X.mg "range" = none) (hg : Gl X "range" := by rfl) (hs : starEach [a] X.env = [(false, eval a X.env)] := by rfl) (hs1 : starEach (a :: []) X.env = (false, eval a X.env) :: starEach [] X.env := by rfl) : JI C Wx X tg (.Call (.Name "range" p) [a] [] pos) (mItR1 ma) where
  pi := by
    have := pi_range1 (tg := tg) (p := p) (pos := pos) hg hm (pa_cons h.pe pa_nil hs1) hs
    refine ⟨fun pins s σ H Rr I ⟨ow, mu, S, R, q⟩ => this.run pins s σ H Rr I ⟨ow, mu, S, R, Post.bind R.sub q fun w S1 v H1 ow1 e1 g1 p1 R1 k1 h1 => ?_⟩⟩
    obtain ⟨ds, e2, h2⟩ := Post.ofG h1
    unfold rg1 at e2
    cases ew : wi w with
    | none => rw [ew] at e2; cases e2
    | some j =>
      rw [ew] at e2
      dsimp only at e2
      split at e2
      · rename_i hb; cases e2; exact ⟨j, by rw [wi_ok k1.1 ew], hb.1, hb.2, h2.now R1 (walks_rng 0 j.toNat)⟩
      · cases e2
  shp := shp_bind h.shp fun _ => shp_of
theorem ji_range2 (h : JE C Wx X a ma) (h' : JE C Wx X b mb) (hm : X.mg "range" = none) (hg : Gl X "range" := by rfl) (hs : starEach [a, b] X.env = [(false, eval a X.env), (false, eval b X.env)] := by rfl) (hs2 : starEach [b] X.env = [(false, eval b X.env)] := by rfl)
    (hs1 : starEach (a :: [b]) X.env = (false, eval a X.env) :: starEach [b] X.env := by rfl) (hs3 : starEach (b :: []) X.env = (false, eval b X.env) :: starEach [] X.env := by rfl) : JI C Wx X tg (.Call (.Name "range" p) [a, b] [] pos) (mItR2 ma mb) where
  pi := by
    have := pi_range2 (tg := tg) (p := p) (pos := pos) hg hm (pa_cons h.pe (pa_cons h'.pe pa_nil hs3) hs1) hs hs2
    refine ⟨fun pins s σ H Rr I ⟨ow, mu, S, R, q⟩ => this.run pins s σ H Rr I ⟨ow, mu, S, R, Post.bind R.sub q fun u S1 v1 H1 ow1 e1 g1 p1 R1 k1 h1 => ⟨ow1, mu, S1, R1, Post.bind R1.sub h1 fun w S2 v2 H2 ow2 e2 g2 p2 R2 k2 h2 => ?_⟩⟩⟩
    obtain ⟨ds, e3, h3⟩ := Post.ofG h2
    unfold rg2 at e3
    split at e3
    · rename_i i j eu ew
      split at e3
      · rename_i hb
        cases e3
        exact ⟨i, j, by rw [wi_ok (k1.1.later R1.sub g2 p2 (h'.shp _ _ _ e2)) eu, wi_ok k2.1 ew], ⟨hb.1, hb.2.1, hb.2.2.1, hb.2.2.2⟩, h3.now R2 (walks_rng i (j - i).toNat)⟩
      · cases e3
    · cases e3
  shp := shp_bind h.shp fun _ => shp_bind h'.shp fun _ => shp_of
end
end Vf

set_option Elab.async false
set_option linter.all false
set_option maxRecDepth 100000
set_option maxHeartbeats 1000000
/-! Vf7: comprehensions; lists of one's own; the pen; stores of two names at once; errors. -/
namespace Vf
open PySem PySem.Spec PyProof.Rows L2

abbrev NoX : WX := fun _ _ _ _ => False
/-- where nothing may be raised -/
def RE.bindB {α β : Type} (r : RE α) (f : α → Sx → RE β) : RE β := match r with
  | .ok a S => f a S
  | _ => .bad
theorem Post.bindB {α β γ δ : Type} [Says α β] [Says γ δ] {C : Cn} {Wx : WX} {ow ow0 mu : List Addr} {σ σ0 : L2.St} {H H0 : Hp} {r : RE α} {f : α → Sx → RE γ} {Q : δ → Hp → Prop} {Z : β → Hp → Prop} (h : Post C Wx ow0 mu σ0 H0 (r.bindB f) Q)
    (k : ∀ a S1 b H1 ow1, r = .ok a S1 → Grow H ow ow1 → Pres mu H H1 → Rel C ow1 mu σ H1 S1 → Says.ok C ow ow1 mu σ H1 S1 b a → Post C Wx ow0 mu σ0 H0 (f a S1) Q → Z b H1) : Post C NoX ow mu σ H r Z := by
  cases r with
  | ok a S1 => exact fun b H1 ow1 g p R q => k a S1 b H1 ow1 rfl g p R q h
  | ex c l S1 => exact h.elim
  | bad => exact h.elim
def wipeS (S : Sx) (vs : List Nat) : Sx := { S with rho := vs.foldr (fun v rho => rho.set v none) S.rho }
theorem wipeS_get {S : Sx} {c : Option Cell} {i : Nat} : ∀ {vs : List Nat}, (vs.foldr (fun v rho => rho.set v none) S.rho)[i]? = some c → (i ∈ vs ∧ c = none) ∨ (i ∉ vs ∧ S.rho[i]? = some c)
  | [], h => .inr ⟨List.not_mem_nil, h⟩
  | v :: vs, h => by
    rw [List.foldr_cons] at h
    rcases set_get h with ⟨rfl, rfl⟩ | ⟨n, h⟩
    · exact .inl ⟨List.mem_cons_self, rfl⟩
    · rcases wipeS_get h with ⟨m, e⟩ | ⟨m, e⟩
      · exact .inl ⟨List.mem_cons_of_mem _ m, e⟩
      · exact .inr ⟨fun z => (List.mem_cons.mp z).elim n m, e⟩
theorem wipeS_len {S : Sx} : ∀ vs : List Nat, (vs.foldr (fun v rho => rho.set v none) S.rho).length = S.rho.length
  | [] => rfl
  | v :: vs => by rw [List.foldr_cons, List.length_set]; exact wipeS_len vs
theorem Rel.wiped {C : Cn} {ow mu : List Addr} {σ : L2.St} {H : Hp} {S : Sx} (r : Rel C ow mu σ H S) (vs : List Nat) : Rel C ow mu (wipe σ vs) H (wipeS S vs) where
  sub := r.sub
  trk := r.trk
  tab := r.tab
  len := by rw [wipe_length, r.len]; exact (wipeS_len vs).symm
  paH := r.paH
  base := r.base
  fresh := r.fresh
  gro := r.gro
  m0 := r.m0
  cells := fun i c e => by
    rcases wipeS_get e with ⟨_, z⟩ | ⟨n, e⟩
    · cases z
    · obtain ⟨v, h1, h2⟩ := r.cells i c e
      exact ⟨v, by rw [wipe_out n]; exact h1, h2⟩
  inj := fun i j ds es v h1 h2 h3 h4 => by
    rcases wipeS_get h1 with ⟨_, z⟩ | ⟨n1, h1⟩
    · cases z
    rcases wipeS_get h2 with ⟨_, z⟩ | ⟨n2, h2⟩
    · cases z
    rw [wipe_out n1] at h3
    rw [wipe_out n2] at h4
    exact r.inj i j ds es v h1 h2 h3 h4
  pen := r.pen
/-- none of the block's own names holds a list of its own -/
def noOwn (S : Sx) (vs : List Nat) : Bool := vs.all fun i => match S.rho[i]? with
  | some (some (.lst _)) => false
  | _ => true
def compS (t : Tg) (vs : List Nat) (mt : MT) (me : ME) : List PyData → List PyData → Sx → RE (List PyData)
  | [], acc, S => .ok acc S
  | d :: ds, acc, S => match bindT t (wipeS S vs) d with
    | none => .bad
    | some S1 => (mt S1).bindB fun b S2 => match b with
      | false => compS t vs mt me ds acc { S with pen := S2.pen }
      | true => (me S2).bindB fun w S3 => match argD w with
        | some x => compS t vs mt me ds (acc ++ [x]) { S with pen := S3.pen }
        | none => .bad
def fin : RE (List PyData) → RE W
  | .ok acc S => .ok (.new acc) S
  | _ => .bad
def mComp (t : Tg) (vs : List Nat) (mi : MI) (mt : MT) (me : ME) : ME := fun S => (mi S).bind fun ds S1 => if noOwn S1 vs && decide (ds.length ≤ 16777215) then fin (compS t vs mt me ds [] S1) else .bad
def mYes : MT := fun S => .ok true S
structure JC (C : Cn) (X : Cx) (ifs : List Expr) (m : MT) : Prop where
  pts : PTs X ifs (tM C NoX m)
  shp : ShpM m
theorem jc_nil {C : Cn} {X : Cx} : JC C X [] mYes := ⟨⟨fun pins s σ H Q I ⟨ow, mu, S, R, h⟩ => pts_nil.run pins s σ H Q I (Post.now (a := true) h R rfl)⟩, shp_ok⟩
theorem jc_one {C : Cn} {X : Cx} {e : Expr} {m : MT} (h : JT C NoX X e m) : JC C X [e] m := ⟨pts_one h.pt, h.shp⟩
/-- a block that kept the slots: its state seen from outside -/
theorem Rel.back {C : Cn} {ow mu : List Addr} {σ σ2 : L2.St} {H H' : Hp} {S S2 : Sx} {vs : List Nat} (r : Rel C ow mu σ H S) (r2 : Rel C ow mu σ2 H' S2) (p : Pres mu H H') (hn : noOwn S vs = true) (hσ : ∀ i, i ∉ vs → σ2[i]? = σ[i]?) (hrho : ∀ i, i ∉ vs → S2.rho[i]? = S.rho[i]?) :
    Rel C ow mu σ H' { S with pen := S2.pen } where
  sub := r.sub
  trk := r2.trk
  tab := r2.tab
  len := r.len
  paH := r.paH
  base := base_step r p
  fresh := r.fresh
  gro := r.gro
  m0 := r.m0
  cells := fun i c e => by
    by_cases hi : i ∈ vs
    · obtain ⟨v, h1, h2⟩ := r.cells i c e
      refine ⟨v, h1, ?_⟩
      have hs : Sub (hid ow H) (hid ow H') := hid_pres r.sub p
      cases c with
      | w x => cases x with
        | d x => exact Rp.mono hs h2
        | pen => exact h2
        | exc c l => obtain ⟨a, z, q⟩ := h2; exact ⟨a, z, excV_mono hs q⟩
        | xv y => exact xv_mono hs h2
        | new _ => exact h2
        | own _ => exact h2
      | lst ds =>
        have := List.all_eq_true.mp hn i hi
        replace e : S.rho[i]? = some (some (.lst ds)) := e
        rw [e] at this
        cases this
    · obtain ⟨v, h1, h2⟩ := r2.cells i c (by rw [hrho i hi]; exact e)
      exact ⟨v, by rw [← hσ i hi]; exact h1, h2⟩
  inj := r.inj
  pen := r2.pen
theorem rel_upd {C : Cn} {ow mu : List Addr} {σ : L2.St} {H : Hp} {S : Sx} {D : Addr} {o : HO} (r : Rel C ow mu σ H S) (hD : D ∈ ow) (nD : D ∉ mu) (hD0 : Nil C.H0 D) {ls : List V} (hl : H D = some (.lst ls)) (nt : NotT o := by intro _ z; cases z) : Rel C ow mu σ (upd H D o) S ∧ hid ow (upd H D o) = hid ow H := by
  have eh : hid ow (upd H D o) = hid ow H := by
    funext b
    by_cases e : b ∈ ow
    · rw [hid_in e, hid_in e]
    · exact hid_eqAt (upd_ne (show b ≠ D from fun z => e (by rw [z]; exact hD)))
  refine ⟨⟨r.sub, trk_upd r nt, tabs_upd r.tab hl, fun i c e => ?_, r.inj, r.len, fun b u n t hb => by rw [upd_ne (show b ≠ D from fun z => hD0.no t (by rw [← z]; exact hb))]; exact r.base b u n t hb, r.fresh, r.gro, r.m0, r.paH, fun π e => ?_⟩, eh⟩
  · obtain ⟨v, h1, h2⟩ := r.cells i c e
    refine ⟨v, h1, ?_⟩
    cases c with
    | w x => cases x with
      | d x => show Rp C.K (hid ow (upd H D o)) v x; rw [eh]; exact h2
      | pen => exact h2
      | exc c l => obtain ⟨a, z, q⟩ := h2; exact ⟨a, z, by rw [eh]; exact q⟩
      | xv y => exact xv_mono (fun b u q => by rw [eh]; exact q) h2
      | new _ => exact h2
      | own _ => exact h2
    | lst ds => obtain ⟨a, xs, q1, q2, q3, q4, q5⟩ := h2; exact ⟨a, xs, q1, q2, q3, by rw [upd_ne (show a ≠ D from fun z => nD (by rw [← z]; exact q2))]; exact q4, by rw [eh]; exact q5⟩
  · obtain ⟨q1, l, q2, q3⟩ := r.pen π e
    exact ⟨q1, l, by rw [upd_ne (show C.pa ≠ D from fun z => nD (by rw [← z]; exact q1))]; exact q2, by rw [eh]; exact q3⟩
theorem wipe_eq {σ σ2 : L2.St} : ∀ {vs : List Nat}, σ2.length = σ.length → (∀ i, i ∉ vs → σ2[i]? = σ[i]?) → wipe σ2 vs = wipe σ vs := fun {vs} hl h => by
  apply List.ext_getElem?
  intro i
  by_cases hi : i ∈ vs
  · have key : ∀ {τ : L2.St} {us : List Nat}, i ∈ us → (wipe τ us)[i]? = if i < τ.length then some none else none := by
      intro τ us
      induction us with
      | nil => intro z; cases z
      | cons u us ih =>
        intro z
        unfold wipe
        by_cases e : u = i
        · subst e
          by_cases hl : u < τ.length
          · rw [List.getElem?_set_self (by rw [wipe_length]; exact hl), if_pos hl]
          · rw [List.getElem?_eq_none (by rw [List.length_set, wipe_length]; omega), if_neg hl]
        · rw [List.getElem?_set_ne e]
          exact ih ((List.mem_cons.mp z).resolve_left (fun q => e q.symm))
    rw [key hi, key hi, hl]
  · rw [wipe_out hi, wipe_out hi, h i hi]
section
variable {C : Cn} {Wx : WX} {X : Cx} {tg iter elt : Expr} {ifs : List Expr} {scope : Scope} {own : List (Str × Nat)} {mi : MI} {mt : MT} {me : ME} {t : Tg} {pos : Pos}
theorem lc_of (hi : JI C Wx X tg iter mi) (hv : ∀ i ∈ t.vs, i ∈ own.map (·.2))
    (ht : ∀ (s : Shared) (H : Hp) (D : Addr) (cl : List (Str × Addr)) (fp : List Addr), JC C (X.blk s H scope (compEnvC scope cl D X.env) fp) ifs mt)
    (he : ∀ (s : Shared) (H : Hp) (D : Addr) (cl : List (Str × Addr)) (fp : List Addr), JE C NoX (X.blk s H scope (compEnvC scope cl D X.env) fp) elt me)  (s0 : Shared) :
    ∀ σ H Q, tM C Wx (mComp t (own.map (·.2)) mi mt me) σ H Q → tLc (tM C Wx mi) (tgR C.K t) (tM C NoX mt) (tM C NoX me) (own.map (·.2)) σ H Q := by
  intro σ H Q ⟨ow, mu, S, R, q⟩
  have sht : ShpM mt := (ht s0 (fun _ => none) 0 [] []).shp
  have she : ShpM me := (he s0 (fun _ => none) 0 [] []).shp
  refine ⟨ow, mu, S, R, Post.bind0 (Grow.refl H ow) (Pres.refl H) R.sub q fun ds S1 J H1 ow1 e1 g1 p1 R1 wk h1 => fun D hD => ?_⟩
  by_cases hc : (noOwn S1 (own.map (·.2)) && decide (ds.length ≤ 16777215)) = true
  case neg => rw [if_neg hc] at h1; exact h1.elim
  rw [if_pos hc] at h1
  obtain ⟨hno, hlen⟩ := Bool.and_eq_true_iff.mp hc
  have hlen := of_decide_eq_true hlen
  have nD1 : D ∉ ow1 := new_out R1 hD
  have nDm : D ∉ mu := fun z => nD1 (R1.sub D z)
  have gD : Grow H1 ow1 (D :: ow1) := grow_cons hD
  have hD0 : Nil C.H0 D := by
    show noTbl (C.H0 D) = none
    cases e : noTbl (C.H0 D) with
    | none => rfl
    | some o =>
      obtain ⟨e1, t⟩ := noTbl_some e
      have := R1.base D o (fun z => nD1 (R1.gro.1 D (R1.m0 D z))) t e1
      rw [hD] at this; cases this
  have R1' : Rel C (D :: ow1) mu σ (upd H1 D (.lst [])) S1 := R1.grow (sub_upd hD) gD fun b hb => by
    rcases List.mem_cons.mp hb with e | e
    · exact ⟨_, by rw [e, upd_same], by intro _ z; cases z⟩
    · exact trk_upd R1 (by intro _ z; cases z) b e
  refine ⟨fun i m H' => m = ds.length - i ∧ i ≤ ds.length ∧ ∃ S' acc vacc, Rel C (D :: ow1) mu σ H' S' ∧ noOwn S' (own.map (·.2)) = true ∧ Pres mu H1 H' ∧ H' D = some (.lst vacc) ∧ RpAll C.K (hid (D :: ow1) H') vacc acc ∧ acc.length ≤ i ∧
    Post C Wx ow mu σ H (fin (compS t (own.map (·.2)) mt me (ds.drop i) acc S')) Q, ⟨_, rfl, Nat.zero_le _, S1, [], [], R1', hno, Pres.of (sub_upd hD), upd_same, .nil, Nat.le_refl _, h1⟩, ?_⟩
  rintro i m H' ⟨rfl, hi, S', acc, vacc, R', hno', p', hD', ra, hacc, h'⟩
  by_cases hlt : i < ds.length
  · right
    have memD : D ∈ D :: ow1 := List.mem_cons_self
    refine ⟨wk.go i H' hlt (p'.mono R.sub), fun H'' => ∃ S' acc vacc, Rel C (D :: ow1) mu σ H'' S' ∧ noOwn S' (own.map (·.2)) = true ∧ Pres mu H1 H'' ∧ H'' D = some (.lst vacc) ∧ RpAll C.K (hid (D :: ow1) H'') vacc acc ∧ acc.length ≤ i + 1 ∧
      Post C Wx ow mu σ H (fin (compS t (own.map (·.2)) mt me (ds.drop (i + 1)) acc S')) Q, fun H'' z => ⟨ds.length - (i + 1), by omega, rfl, hlt, z⟩, fun y H'' hy => ?_⟩
    obtain ⟨d, hd, sb, rp⟩ := wk.yld i H' y H'' hlt (p'.mono R.sub) hy
    have ed : ds.drop i = d :: ds.drop (i + 1) := by
      rw [List.drop_eq_getElem_cons hlt]
      rw [List.getElem?_eq_getElem hlt] at hd
      cases hd
      rfl
    rw [ed] at h'
    have R3 : Rel C (D :: ow1) mu σ H'' S' := R'.grow sb (Grow.refl _ _) fun b hb => by obtain ⟨o, z, t⟩ := R'.trk b hb; exact ⟨o, sb _ _ z, t⟩
    have rp' := rp (D :: ow1) gD R'.trk
    unfold compS at h'
    cases eb : bindT t (wipeS S' (own.map (·.2))) d with
    | none => rw [eb] at h'; exact h'.elim
    | some S3 =>
      rw [eb] at h'
      dsimp only at h'
      refine bindT_ok (R3.wiped _) rp' eb fun σ3 R4 kσ lσ => ⟨wipe_eq (by rw [lσ, wipe_length]) fun j hj => ?_, (D :: ow1), mu, S3, R4, ?_⟩
      · rw [kσ j (fun z => hj (hv j z)), wipe_out hj]
      have hrho3 : ∀ j, j ∉ own.map (·.2) → S3.rho[j]? = S'.rho[j]? := fun j hj => by
        have key : ∀ {T T' : Sx} {d : PyData}, bindT t T d = some T' → T'.rho[j]? = T.rho[j]? := fun {T T' d} e => by
          have hj' : j ∉ t.vs := fun z => hj (hv j z)
          cases t with
          | one a =>
            replace e : (if T.rho.length ≤ a then none else some (sset T a (.w (.d d)))) = some T' := e
            split at e
            · cases e
            · cases e; exact List.getElem?_set_ne (fun z => hj' (by simp [Tg.vs, z]))
          | two a b =>
            cases d with
            | tuple xs =>
              match xs, e with
              | [x1, x2], e =>
                replace e : (if T.rho.length ≤ a ∨ T.rho.length ≤ b then none else some (sset (sset T a (.w (.d x1))) b (.w (.d x2)))) = some T' := e
                split at e
                · cases e
                · cases e
                  show ((T.rho.set a _).set b _)[j]? = _
                  rw [List.getElem?_set_ne (fun z => hj' (by simp [Tg.vs, z])), List.getElem?_set_ne (fun z => hj' (by simp [Tg.vs, z]))]
              | [], e => cases e
              | [_], e => cases e
              | _ :: _ :: _ :: _, e => cases e
            | _ => cases e
        rw [key eb]
        have : ∀ (us : List Nat), j ∉ us → (us.foldr (fun v rho => rho.set v none) S'.rho)[j]? = S'.rho[j]? := by
          intro us
          induction us with
          | nil => intro _; rfl
          | cons u us ih =>
            intro hu
            rw [List.foldr_cons, List.getElem?_set_ne (fun z => hu (by simp [z]))]
            exact ih fun z => hu (List.mem_cons_of_mem _ z)
        exact this _ hj
      have hσ3 : ∀ j, j ∉ own.map (·.2) → σ3[j]? = σ[j]? := fun j hj => by rw [kσ j (fun z => hj (hv j z)), wipe_out hj]
      -- the test
      cases er : mt S3 with
      | ex c l S5 => rw [er] at h'; exact h'.elim
      | bad => rw [er] at h'; exact h'.elim
      | ok b S4 =>
        rw [er] at h'
        dsimp only [RE.bindB] at h'
        intro bb H4 ow4 g4 p4 R5 kb
        cases (show bb = b from kb)
        have R5' : Rel C (D :: ow1) mu σ3 H4 S4 := R5.less g4.1 R4.sub R4.paH R4.gro.1
        have hrho4 : ∀ j, j ∉ own.map (·.2) → S4.rho[j]? = S'.rho[j]? := fun j hj => by rw [(sht _ _ _ er).r]; exact hrho3 j hj
        have pre4 : Pres mu H' H4 := (Pres.of sb).trans p4
        have hD4 : H4 D = some (.lst vacc) := pre4 D _ nDm (by intro _ z; cases z) hD'
        have ra4 : RpAll C.K (hid (D :: ow1) H4) vacc acc := ra.mono (hid_pres R'.sub pre4)
        cases b with
        | false => exact iteF ⟨{ S' with pen := S4.pen }, acc, vacc, R'.back R5' pre4 hno' hσ3 hrho4, hno', p'.trans pre4, hD4, ra4, by omega, h'⟩
        | true =>
          refine iteT ⟨ow4, mu, S4, R5, ?_⟩
          cases ee : me S4 with
          | ex c l S6 => rw [ee] at h'; exact h'.elim
          | bad => rw [ee] at h'; exact h'.elim
          | ok w S6 =>
            rw [ee] at h'
            dsimp only [RE.bindB] at h'
            cases ex : argD w with
            | none => rw [ex] at h'; exact h'.elim
            | some x =>
              rw [ex] at h'
              dsimp only at h'
              intro z H6 ow6 g6 p6 R7 k6
              have R7' : Rel C (D :: ow1) mu σ3 H6 S6 := R7.less (fun b hb => g6.1 b (g4.1 b hb)) R4.sub R4.paH R4.gro.1
              have pre6 : Pres mu H' H6 := pre4.trans p6
              have hD6 : H6 D = some (.lst vacc) := pre6 D _ nDm (by intro _ z; cases z) hD'
              have hrho6 : ∀ j, j ∉ own.map (·.2) → S6.rho[j]? = S'.rho[j]? := fun j hj => by rw [(she _ _ _ ee).r]; exact hrho4 j hj
              have R8 := R'.back R7' pre6 hno' hσ3 hrho6
              obtain ⟨R9, eh⟩ := rel_upd (o := .lst (vacc ++ [z])) R8 memD nDm hD0 hD6
              have rz : RpAll C.K (hid (D :: ow1) H6) [z] [x] := argDs_ok (ow := D :: ow1) (ow' := ow6) (wl := [w]) (fun b hb => g6.1 b (g4.1 b hb)) (.cons k6.1 (k6.2.anti g4.1) .nil) (by unfold argDs; rw [ex]; rfl)
              have hz := ra4.length
              refine ⟨vacc, hD6, ?_, { S' with pen := S6.pen }, acc ++ [x], vacc ++ [z], R9, hno', ?_, upd_same, ?_, by simp; omega, h'⟩
              · rw [hz, sizeLine_eq]; omega
              · exact fun b o nb t hb => by rw [upd_ne (fun e => by rw [e, hD] at hb; cases hb)]; exact (p'.trans pre6) b o nb t hb
              · rw [eh]; exact (ra.mono (hid_pres R'.sub pre6)).append rz
  · left
    have ei : i = ds.length := by omega
    subst ei
    rw [List.drop_length] at h'
    refine ⟨wk.stop H' (p'.mono R.sub), ?_⟩
    have gg : Grow H ow (D :: ow1) := g1.trans p1 R.sub gD
    have nDo : D ∉ ow := fun z => nD1 (g1.1 D z)
    exact (show Post C Wx ow mu σ H (RE.ok (W.new acc) S') Q from h') (.ref D) H' (D :: ow1) gg (p1.trans p') R' ⟨⟨D, vacc, rfl, List.mem_cons_self, nDm, hD', ra⟩, fun _ _ p e => by cases e; exact nDo⟩
theorem lc_shp (hi : JI C Wx X tg iter mi)
    (ht : ∀ (s : Shared) (H : Hp) (D : Addr) (cl : List (Str × Addr)) (fp : List Addr), JC C (X.blk s H scope (compEnvC scope cl D X.env) fp) ifs mt)
    (he : ∀ (s : Shared) (H : Hp) (D : Addr) (cl : List (Str × Addr)) (fp : List Addr), JE C NoX (X.blk s H scope (compEnvC scope cl D X.env) fp) elt me)  (s0 : Shared) : ShpM (mComp t (own.map (·.2)) mi mt me) := by
  have sht : ShpM mt := (ht s0 (fun _ => none) 0 [] []).shp
  have she : ShpM me := (he s0 (fun _ => none) 0 [] []).shp
  have key : ∀ (ds acc : List PyData) (S : Sx) (r : List PyData) (S' : Sx), compS t (own.map (·.2)) mt me ds acc S = .ok r S' → Shp S S' := by
    intro ds
    induction ds with
    | nil => intro acc S r S' e; cases e; exact Shp.refl S
    | cons d ds ih =>
      intro acc S r S' e
      unfold compS at e
      cases eb : bindT t (wipeS S (own.map (·.2))) d with
      | none => rw [eb] at e; cases e
      | some S1 =>
        rw [eb] at e
        dsimp only at e
        have pb : S1.pen = S.pen := by
          cases t with
          | one a =>
            replace eb : (if (wipeS S (own.map (·.2))).rho.length ≤ a then none else some (sset (wipeS S (own.map (·.2))) a (.w (.d d)))) = some S1 := eb
            split at eb
            · cases eb
            · cases eb; rfl
          | two a b =>
            cases d with
            | tuple xs =>
              match xs, eb with
              | [x1, x2], eb =>
                replace eb : (if (wipeS S (own.map (·.2))).rho.length ≤ a ∨ (wipeS S (own.map (·.2))).rho.length ≤ b then none else some (sset (sset (wipeS S (own.map (·.2))) a (.w (.d x1))) b (.w (.d x2)))) = some S1 := eb
                split at eb
                · cases eb
                · cases eb; rfl
              | [], eb => cases eb
              | [_], eb => cases eb
              | _ :: _ :: _ :: _, eb => cases eb
            | _ => cases eb
        cases er : mt S1 with
        | ex c l S5 => rw [er] at e; cases e
        | bad => rw [er] at e; cases e
        | ok b S4 =>
          rw [er] at e
          dsimp only [RE.bindB] at e
          have p4 := (sht _ _ _ er).p
          cases b with
          | false => have z := ih _ _ _ _ e; exact ⟨z.r, by rw [← pb, p4]; exact z.p⟩
          | true =>
            cases ee : me S4 with
            | ex c l S6 => rw [ee] at e; cases e
            | bad => rw [ee] at e; cases e
            | ok w S6 =>
              rw [ee] at e
              dsimp only [RE.bindB] at e
              have p6 := (she _ _ _ ee).p
              cases ex : argD w with
              | none => rw [ex] at e; cases e
              | some x => rw [ex] at e; have z := ih _ _ _ _ e; exact ⟨z.r, by rw [← pb, p4, p6]; exact z.p⟩
  refine shp_bind hi.shp fun ds => fun S w S' e => ?_
  replace e : (if (noOwn S (own.map (·.2)) && decide (ds.length ≤ 16777215)) = true then fin (compS t (own.map (·.2)) mt me ds [] S) else .bad) = .ok w S' := e
  split at e
  · cases ec : compS t (own.map (·.2)) mt me ds [] S with
    | ok acc S2 => rw [ec] at e; cases e; exact key _ _ _ _ _ ec
    | ex c l S2 => rw [ec] at e; cases e
    | bad => rw [ec] at e; cases e
  · cases e
theorem je_lc (hx : Hx C X) (hi : JI C Wx X tg iter mi) (ok : BlkOk X.N X.env.scope scope own) (hv : ∀ i ∈ t.vs, i ∈ own.map (·.2))
    (hg : ∀ (s : Shared) (H : Hp) (D : Addr) (cl : List (Str × Addr)) (fp : List Addr), PG (X.blk s H scope (compEnvC scope cl D X.env) fp) tg (tgR C.K t)) (ht : ∀ (s : Shared) (H : Hp) (D : Addr) (cl : List (Str × Addr)) (fp : List Addr), JC C (X.blk s H scope (compEnvC scope cl D X.env) fp) ifs mt)
    (he : ∀ (s : Shared) (H : Hp) (D : Addr) (cl : List (Str × Addr)) (fp : List Addr), JE C NoX (X.blk s H scope (compEnvC scope cl D X.env) fp) elt me) (s0 : Shared) (hs : ∀ x, foldedSetIterable iter X.env x = pure x := by intro _; rfl) :
    JE C Wx X (.ListComp elt [⟨tg, iter, ifs, 0⟩] scope pos) (mComp t (own.map (·.2)) mi mt me) where
  pe := (pe_lc hx.calm hx.nd hi.pi ok hg (fun s H D cl fp => (ht s H D cl fp).pts) (fun s H D cl fp => (he s H D cl fp).pe) hs).weak (lc_of hi hv ht he s0)
  shp := lc_shp hi ht he s0
end
end Vf

set_option Elab.async false
set_option linter.all false
set_option maxRecDepth 100000
set_option maxHeartbeats 1000000
/-! Vf8: lists of one's own, the pen, two names at once, errors raised. -/
namespace Vf
open PySem PySem.Spec PyProof.Rows L2

/-- an expression further on, the rest told of an earlier place -/
theorem Post.go0 {C : Cn} {Wx : WX} {ow ow1 mu : List Addr} {σ : L2.St} {H H1 : Hp} {D : Ends} {α β : Type} [Says α β] {r : RE α} {f : α → Sx → RS} {Z : β → Hp → Prop} (g0 : Grow H ow ow1) (p0 : Pres mu H H1) (s : ∀ b ∈ mu, b ∈ ow) (h : PostS C Wx ow mu H (r.go f) D)
    (k : ∀ a S1 b H2 ow2, r = .ok a S1 → Grow H1 ow1 ow2 → Pres mu H1 H2 → Rel C ow2 mu σ H2 S1 → Says.ok C ow1 ow2 mu σ H2 S1 b a → PostS C Wx ow mu H (f a S1) D → Z b H2) : Post C Wx ow1 mu σ H1 r Z := by
  cases r with
  | ok a S1 => exact fun b H2 ow2 g p R q => k a S1 b H2 ow2 rfl g p R q h
  | ex c l S1 => exact fun H' ow' cls d g p R x => h ow' mu σ H' cls d (PresS.of (g0.trans p0 s g) (p0.trans p)) R x
  | bad => exact h
/-! ### a list of a slot is changed -/
def olist (S : Sx) (i : Nat) : Option (List PyData) := match S.rho[i]? with
  | some (some (.lst ds)) => some ds
  | _ => none
theorem olist_ok {S : Sx} {i : Nat} {ds : List PyData} (h : olist S i = some ds) : S.rho[i]? = some (some (.lst ds)) := by
  unfold olist at h
  split at h
  · rename_i es e; cases h; exact e
  · cases h
section
variable {C : Cn} {ow mu : List Addr} {σ : L2.St} {H : Hp} {S : Sx}
theorem upd_mu {a : Addr} {o : HO} (r : Rel C ow mu σ H S) (ha : a ∈ mu) : hid ow (upd H a o) = hid ow H ∧ Pres mu H (upd H a o) := by
  refine ⟨?_, fun b u n _ h => by rw [upd_ne (show b ≠ a from fun z => n (by rw [z]; exact ha))]; exact h⟩
  funext b
  by_cases e : b ∈ ow
  · rw [hid_in e, hid_in e]
  · exact hid_eqAt (upd_ne (show b ≠ a from fun z => e (by rw [z]; exact r.sub a ha)))
theorem Rel.ownSet {i : Nat} {a : Addr} {ds es : List PyData} {vs' : List V} (r : Rel C ow mu σ H S) (hi : S.rho[i]? = some (some (.lst ds))) (ha : σ[i]? = some (some (.ref a))) (h' : RpAll C.K (hid ow H) vs' es) :
    Rel C ow mu σ (upd H a (.lst vs')) (sset S i (.lst es)) := by
  obtain ⟨v, q1, a', vs, q2, q3, q4, q5, q6⟩ := r.cells i _ hi
  rw [ha] at q1
  cases q1
  cases q2
  obtain ⟨eh, pm⟩ := upd_mu (o := .lst vs') r q3
  refine ⟨r.sub, trk_upd r, tabs_upd r.tab q5, fun j c e => ?_, fun j k fs gs u h1 h2 h3 h4 => ?_, by rw [r.len]; exact (List.length_set ..).symm, base_step r pm, r.fresh, r.gro, r.m0, r.paH, fun π e => ?_⟩
  · rcases set_get e with ⟨rfl, e'⟩ | ⟨hj, e'⟩
    · cases e'
      exact ⟨.ref a, ha, a, vs', rfl, q3, q4, upd_same, by rw [eh]; exact h'⟩
    · obtain ⟨u, h1, h2⟩ := r.cells j c e'
      refine ⟨u, h1, ?_⟩
      cases c with
      | w x => cases x with
        | d x => show Rp C.K (hid ow (upd H a (.lst vs'))) u x; rw [eh]; exact h2
        | pen => exact h2
        | exc c l => obtain ⟨b, z, q⟩ := h2; exact ⟨b, z, by rw [eh]; exact q⟩
        | xv y => exact xv_mono (fun b u q => by rw [eh]; exact q) h2
        | new _ => exact h2
        | own _ => exact h2
      | lst fs =>
        obtain ⟨b, xs, z1, z2, z3, z4, z5⟩ := h2
        refine ⟨b, xs, z1, z2, z3, ?_, by rw [eh]; exact z5⟩
        rw [upd_ne (show b ≠ a from fun z => hj (r.inj j i fs ds (.ref a) e' hi (by rw [h1, z1, z]) ha))]
        exact z4
  · have back : ∀ {j : Nat} {fs : List PyData}, (S.rho.set i (some (.lst es)))[j]? = some (some (Cell.lst fs)) → ∃ gs, S.rho[j]? = some (some (Cell.lst gs)) := fun {j fs} h => by
      rcases set_get h with ⟨rfl, _⟩ | ⟨_, h⟩
      · exact ⟨ds, hi⟩
      · exact ⟨fs, h⟩
    obtain ⟨f1, b1⟩ := back h1
    obtain ⟨f2, b2⟩ := back h2
    exact r.inj j k f1 f2 u b1 b2 h3 h4
  · obtain ⟨z1, l, z2, z3⟩ := r.pen π e
    exact ⟨z1, l, by rw [upd_ne (show (C.pa : Addr) ≠ a from fun z => q4 z.symm)]; exact z2, by rw [eh]; exact z3⟩
theorem Rel.penSet {π π' : Pen} {l : Addr} (r : Rel C ow mu σ H S) (h : S.pen = some π) (hl : H C.pa = some (.lst [.ref l, .int π.i, .int π.z])) (hn : π'.ns = π.ns) :
    Rel C ow mu σ (upd H C.pa (.lst [.ref l, .int π'.i, .int π'.z])) { S with pen := some π' } := by
  obtain ⟨z1, l', z2, z3⟩ := r.pen π h
  rw [hl] at z2
  cases z2
  obtain ⟨eh, pm⟩ := upd_mu (o := .lst [.ref l, .int π'.i, .int π'.z]) r z1
  refine ⟨r.sub, trk_upd r, tabs_upd r.tab hl, fun j c e => ?_, r.inj, r.len, base_step r pm, r.fresh, r.gro, r.m0, r.paH, fun π0 e => ?_⟩
  · obtain ⟨u, h1, h2⟩ := r.cells j c e
    refine ⟨u, h1, ?_⟩
    cases c with
    | w x => cases x with
      | d x => show Rp C.K (hid ow (upd H C.pa _)) u x; rw [eh]; exact h2
      | pen => exact h2
      | exc c l => obtain ⟨b, z, q⟩ := h2; exact ⟨b, z, by rw [eh]; exact q⟩
      | xv y => exact xv_mono (fun b u q => by rw [eh]; exact q) h2
      | new _ => exact h2
      | own _ => exact h2
    | lst fs =>
      obtain ⟨b, xs, y1, y2, y3, y4, y5⟩ := h2
      exact ⟨b, xs, y1, y2, y3, by rw [upd_ne y3]; exact y4, by rw [eh]; exact y5⟩
  · cases e
    exact ⟨z1, l, upd_same, by rw [eh, hn]; exact z3⟩
end
section
variable {C : Cn} {Wx : WX} {X : Cx} {e ek : Expr} {me mk : ME} {x y : Str} {p p2 pos apos cpos : Pos} {i j : Nat}
/-- x.append(e) -/
def mApp1 (i : Nat) (w : W) (S1 : Sx) : RS := match olist S1 i, argD w with
  | some ds, some x => if ds.length < 16777216 then .nx (sset S1 i (.lst (ds ++ [x]))) else .bad
  | _, _ => .bad
def mAppend (i : Nat) (me : ME) : MS := fun S => match olist S i with
  | none => .bad
  | some _ => (me S).go fun w S1 => mApp1 i w S1
theorem wb_lt {n : Nat} (h : n < 16777216) : n < sizeLine := by rw [sizeLine_eq]; exact h
theorem arg1 {ow ow' mu : List Addr} {σ : L2.St} {H : Hp} {S : Sx} {v : V} {w : W} {x : PyData} (s : ∀ b ∈ ow, b ∈ ow') (k : WOk C ow' mu σ H S v w) (n : WNew ow v w) (e : argD w = some x) : Rp C.K (hid ow H) v x := by
  have := argDs_ok (C := C) (wl := [w]) (ds := [x]) s (.cons k n .nil) (by unfold argDs; rw [e]; rfl)
  cases this
  assumption
theorem jp_append (hN : PE X (.Name x p) (tVar i)) (he : PE X e (tM C Wx me))
    (hbase : attributeBase (.Name x p) "append" X.env (eval (.Name x p) X.env) = eval (.Name x p) X.env := by rfl)
    (hfew : ((backTo cpos (starEach (e :: []) X.env)).all (fun x => !x.1) && (backToKw cpos (keywordEach [] X.env)).all (fun x => x.1.isSome) && decide ((e :: []).length + ([] : List Keyword).length + (if ([] : List Keyword).isEmpty then 0 else 1) < 30)) = true := by rfl)
    (hline : (apos.endLine == cpos.line) = true := by rfl) (hs : starEach (e :: []) X.env = (false, eval e X.env) :: starEach [] X.env := by rfl) (hplain : (backTo cpos (starEach [] X.env)).any (·.1) = false := by rfl)
    (hsw : swapsWith (.Call (.Attribute (.Name x p) "append" apos) [e] [] cpos) none pos.line X.env = pure false := by rfl) : JS C Wx X (.Expr (.Call (.Attribute (.Name x p) "append" apos) [e] [] cpos) pos) (mAppend i me) :=
  (ps_expr (pe_bm PySem.F.plainAttrs_list PySem.F.slot_list_append PySem.F.type_list_append mt_append hN (pa_cons he pa_nil hs) hbase hfew hline hs hplain) hsw).weak fun D σ H ⟨ow, mu, S, R, q⟩ => by
    unfold mAppend at q
    cases eo : olist S i with
    | none => rw [eo] at q; exact q.elim
    | some ds0 =>
      rw [eo] at q
      obtain ⟨v, h1, a, vs, rfl, h3, h4, h5, h6⟩ := R.cells i _ (olist_ok eo)
      refine ⟨.ref a, h1, .inl ⟨rfl, vs, .inl (.inl h5)⟩, ow, mu, S, R, Post.go R.sub q fun w S1 y H1 ow1 e1 g1 p1 R1 k1 q1 => ?_⟩
      unfold mApp1 at q1
      cases eo1 : olist S1 i with
      | none => rw [eo1] at q1; exact q1.elim
      | some ds =>
        rw [eo1] at q1
        cases ea : argD w with
        | none => rw [ea] at q1; exact q1.elim
        | some d =>
          rw [ea] at q1
          dsimp only at q1
          by_cases hz : ds.length < 16777216
          · rw [if_pos hz] at q1
            have R2 : Rel C ow mu σ H1 S1 := R1.less g1.1 R.sub R.paH R.gro.1
            obtain ⟨v', z1, a', us, z2, z3, z4, z5, z6⟩ := R2.cells i _ (olist_ok eo1)
            rw [h1] at z1
            cases z1
            cases z2
            have rd := arg1 g1.1 k1.1 k1.2 ea
            refine ⟨a, us, y, rfl, rfl, z5, wb_lt (by rw [z6.length]; exact hz), ?_⟩
            have R3 := R2.ownSet (olist_ok eo1) h1 (z6.append (.cons rd .nil))
            exact q1 ow mu σ _ (PresS.of (Grow.refl _ _) (p1.trans (upd_mu R2 z3).2)) R3
          · rw [if_neg hz] at q1; exact q1.elim
theorem js_append (hN : PE X (.Name x p) (tVar i)) (he : JE C Wx X e me)
    (hbase : attributeBase (.Name x p) "append" X.env (eval (.Name x p) X.env) = eval (.Name x p) X.env := by rfl)
    (hfew : ((backTo cpos (starEach (e :: []) X.env)).all (fun x => !x.1) && (backToKw cpos (keywordEach [] X.env)).all (fun x => x.1.isSome) && decide ((e :: []).length + ([] : List Keyword).length + (if ([] : List Keyword).isEmpty then 0 else 1) < 30)) = true := by rfl)
    (hline : (apos.endLine == cpos.line) = true := by rfl) (hs : starEach (e :: []) X.env = (false, eval e X.env) :: starEach [] X.env := by rfl) (hplain : (backTo cpos (starEach [] X.env)).any (·.1) = false := by rfl)
    (hsw : swapsWith (.Call (.Attribute (.Name x p) "append" apos) [e] [] cpos) none pos.line X.env = pure false := by rfl) : JS C Wx X (.Expr (.Call (.Attribute (.Name x p) "append" apos) [e] [] cpos) pos) (mAppend i me) :=
  jp_append hN he.pe hbase hfew hline hs hplain hsw
/-- x[k] = e, x a list of its own -/
def mSetItem (i : Nat) (me mk : ME) : MS := fun S => (me S).go fun w S1 => match olist S1 i with
  | none => .bad
  | some _ => (mk S1).go fun u S2 => match olist S2 i, wi u, argD w with
    | some ds, some k, some x => (match ixN ds.length k with
      | some j => .nx (sset S2 i (.lst (ds.set j x)))
      | none => .bad)
    | _, _, _ => .bad
theorem js_setitem (he : JE C Wx X e me) (hk : JE C Wx X ek mk) (hg : PG X (.Subscript (.Name x p) ek p2) (L2.gSub (tVar i) (tM C Wx mk) rSetL))
    (hs : swapsWithSole [.Subscript (.Name x p) ek p2] e pos.line X.env = pure false := by rfl) (hw : swappedStores [.Subscript (.Name x p) ek p2] e X.env = pure none := by rfl) : JS C Wx X (.Assign [.Subscript (.Name x p) ek p2] e pos) (mSetItem i me mk) :=
  (ps_asg he.pe hg hs hw).weak fun D σ H ⟨ow, mu, S, R, q⟩ => by
    refine ⟨ow, mu, S, R, Post.go R.sub q fun w S1 v H1 ow1 e1 g1 p1 R1 k1 q1 => ?_⟩
    cases eo : olist S1 i with
    | none => rw [eo] at q1; exact q1.elim
    | some ds0 =>
      rw [eo] at q1
      obtain ⟨v0, h1, a, vs, rfl, h3, h4, h5, h6⟩ := R1.cells i _ (olist_ok eo)
      refine ⟨.ref a, h1, ow1, mu, S1, R1, Post.go0 g1 p1 R.sub q1 fun u S2 y H2 ow2 e2 g2 p2 R2 k2 q2 => ?_⟩
      split at q2
      · rename_i ds k x e3 e4 e5
        split at q2
        · rename_i j e6
          have gg := g1.trans p1 R.sub g2
          have R3 : Rel C ow1 mu σ H2 S2 := R2.less g2.1 R1.sub R1.paH R1.gro.1
          obtain ⟨v', z1, a', us, z2, z3, z4, z5, z6⟩ := R3.cells i _ (olist_ok e3)
          rw [h1] at z1
          cases z1
          cases z2
          -- what is stored may be a new list of its own: it is seen from now on
          have R4 : Rel C ow mu σ H2 S2 := R2.less gg.1 R.sub R.paH R.gro.1
          obtain ⟨v', y1, a', us', y2, y3, y4, y5, y6⟩ := R4.cells i _ (olist_ok e3)
          rw [h1] at y1
          cases y1
          cases y2
          have rd := arg1 gg.1 (k1.1.later R1.sub g2 p2 (hk.shp _ _ _ e2)) k1.2 e5
          refine ⟨a, us', k, j, rfl, by rw [wi_ok k2.1 e4], y5, by rw [y6.length]; exact e6, ?_⟩
          have R5 := R4.ownSet (olist_ok e3) h1 (y6.set j rd)
          exact q2 ow mu σ _ (PresS.of (Grow.refl _ _) ((p1.trans p2).trans (upd_mu R4 y3).2)) R5
        · exact q2.elim
      · exact q2.elim
/-- pen[1] = e, pen[2] = e -/
def mSetPen (me mo mk : ME) : MS := fun S => (me S).go fun w S1 => (mo S1).go fun o S2 => (mk S2).go fun u S3 => match o, S3.pen, wi u, wi w with
  | .pen, some π, some 1, some z => .nx { S3 with pen := some { π with i := z } }
  | .pen, some π, some 2, some z => .nx { S3 with pen := some { π with z := z } }
  | _, _, _, _ => .bad
theorem js_setpen {o : Expr} {mo : ME} (he : JE C Wx X e me) (ho : JE C Wx X o mo) (hk : JE C Wx X ek mk) (hg : PG X (.Subscript o ek p2) (L2.gSub (tM C Wx mo) (tM C Wx mk) rSetL))
    (hs : swapsWithSole [.Subscript o ek p2] e pos.line X.env = pure false := by rfl) (hw : swappedStores [.Subscript o ek p2] e X.env = pure none := by rfl) : JS C Wx X (.Assign [.Subscript o ek p2] e pos) (mSetPen me mo mk) :=
  (ps_asg he.pe hg hs hw).weak fun D σ H ⟨ow, mu, S, R, q⟩ => by
    refine ⟨ow, mu, S, R, Post.go R.sub q fun w S1 v H1 ow1 e1 g1 p1 R1 k1 q1 => ⟨ow1, mu, S1, R1, Post.go0 g1 p1 R.sub q1 fun o S2 vo H2 ow2 e2 g2 p2 R2 k2 q2 => ⟨ow2, mu, S2, R2, Post.go0 (g1.trans p1 R.sub g2) (p1.trans p2) R.sub q2 fun u S3 vu H3 ow3 e3 g3 p3 R3 k3 q3 => ?_⟩⟩⟩
    have gg := (g1.trans p1 R.sub g2).trans (p1.trans p2) R.sub g3
    have pp := (p1.trans p2).trans p3
    have R4 : Rel C ow mu σ H3 S3 := R3.less gg.1 R.sub R.paH R.gro.1
    have kw := (k1.1.later R1.sub g2 p2 (ho.shp _ _ _ e2)).later R2.sub g3 p3 (hk.shp _ _ _ e3)
    split at q3
    · rename_i π z ep eu ew
      obtain ⟨hp, l, hl, _⟩ := R4.pen π ep
      cases (show vo = .ref C.pa from k2.1)
      have R5 := R4.penSet (π' := { π with i := z }) ep hl rfl
      refine ⟨C.pa, _, 1, 1, rfl, by rw [wi_ok k3.1 eu], hl, rfl, ?_⟩
      rw [wi_ok kw ew]
      exact q3 ow mu σ _ (PresS.of (Grow.refl _ _) (pp.trans (upd_mu R4 hp).2)) R5
    · rename_i π z ep eu ew
      obtain ⟨hp, l, hl, _⟩ := R4.pen π ep
      cases (show vo = .ref C.pa from k2.1)
      have R5 := R4.penSet (π' := { π with z := z }) ep hl rfl
      refine ⟨C.pa, _, 2, 2, rfl, by rw [wi_ok k3.1 eu], hl, rfl, ?_⟩
      rw [wi_ok kw ew]
      exact q3 ow mu σ _ (PresS.of (Grow.refl _ _) (pp.trans (upd_mu R4 hp).2)) R5
    · exact q3.elim
end
end Vf

set_option Elab.async false
set_option linter.all false
set_option maxRecDepth 100000
set_option maxHeartbeats 1000000
/-! Vf9: two names at once, errors raised, the end of a law. -/
namespace Vf
open PySem PySem.Spec PyProof.Rows L2

section
variable {C : Cn} {ow mu : List Addr} {σ : L2.St} {H : Hp} {S : Sx}
/-- a hidden list becomes a slot's own -/
theorem Rel.putH {i : Nat} {p : Addr} {vs : List V} {ds : List PyData} (r : Rel C ow mu σ H S) (hi : i < σ.length) (hp : H p = some (.lst vs)) (hin : p ∈ ow) (hnm : p ∉ mu) (hpa : p ≠ C.pa) (hr : RpAll C.K (hid ow H) vs ds) (hf : Nil C.H0 p) :
    Rel C ow (p :: mu) (σ.set i (some (.ref p))) H (sset S i (.lst ds)) where
  len := by show (σ.set i _).length = (S.rho.set i _).length; rw [List.length_set, List.length_set]; exact r.len
  paH := r.paH
  base := r.base
  fresh := fun b h => (List.mem_cons.mp h).elim (fun e => e ▸ .inr hf) (r.fresh b)
  gro := r.gro
  m0 := r.m0
  sub := fun b h => (List.mem_cons.mp h).elim (fun e => e ▸ hin) (r.sub b)
  trk := r.trk
  tab := r.tab
  cells := fun j c e => by
    rcases set_get e with ⟨rfl, e'⟩ | ⟨hj, e'⟩
    · cases e'; exact ⟨.ref p, List.getElem?_set_self hi, p, vs, rfl, List.mem_cons_self, hpa, hp, hr⟩
    · obtain ⟨u, h1, h2⟩ := r.cells j c e'
      refine ⟨u, by rw [List.getElem?_set_ne (Ne.symm hj)]; exact h1, ?_⟩
      cases c with
      | w x => cases x <;> exact h2
      | lst es => obtain ⟨a, xs, q1, q2, q3, q4, q5⟩ := h2; exact ⟨a, xs, q1, List.mem_cons_of_mem _ q2, q3, q4, q5⟩
  inj := fun a b ds' es u h1 h2 h3 h4 => by
    have key : ∀ {c : Nat} {fs : List PyData}, c ≠ i → S.rho[c]? = some (some (.lst fs)) → (σ.set i (some (V.ref p)))[c]? = some (some (V.ref p)) → False := fun {c fs} hc q1 q2 => by
      rw [List.getElem?_set_ne (Ne.symm hc)] at q2
      obtain ⟨u', z1, a', xs, z2, z3, _⟩ := r.cells c _ q1
      rw [q2] at z1
      cases z1
      cases z2
      exact hnm z3
    rcases set_get h1 with ⟨rfl, _⟩ | ⟨n1, h1'⟩
    · rcases set_get h2 with ⟨rfl, _⟩ | ⟨n2, h2'⟩
      · rfl
      · rw [List.getElem?_set_self hi] at h3; cases h3; exact (key n2 h2' h4).elim
    · rcases set_get h2 with ⟨rfl, _⟩ | ⟨n2, h2'⟩
      · rw [List.getElem?_set_self hi] at h4; cases h4; exact (key n1 h1' h3).elim
      · rw [List.getElem?_set_ne (Ne.symm n1)] at h3
        rw [List.getElem?_set_ne (Ne.symm n2)] at h4
        exact r.inj a b ds' es u h1' h2' h3 h4
  pen := fun π e => by obtain ⟨q1, q2⟩ := r.pen π e; exact ⟨List.mem_cons_of_mem _ q1, q2⟩
end
def putW (own : Bool) (i : Nat) (w : W) (S : Sx) : Option Sx := if S.rho.length ≤ i then none else match own with
  | true => (match w with
    | .new ds => some (sset S i (.lst ds))
    | _ => none)
  | false => (cellOf w).map (sset S i)
def mPar (oi oj : Bool) (i j : Nat) (ma mb : ME) : MS := fun S => (ma S).go fun w1 S1 => (mb S1).go fun w2 S2 => match (putW oi i w1 S2).bind (putW oj j w2) with
  | some S3 => .nx S3
  | none => .bad
section
variable {C : Cn} {Wx : WX} {X : Cx} {a b e : Expr} {ma mb me : ME} {x y : Str} {px py pt pos : Pos} {kt k2 : Nat} {pt2 : Pos} {i j : Nat} {oi oj : Bool}
/-- the second value ahead of the first: the same -/
theorem putW_comm {w1 w2 : W} {S S3 : Sx} (h : i ≠ j) (e : (putW oi i w1 S).bind (putW oj j w2) = some S3) : ∃ S', putW oj j w2 S = some S' ∧ putW oi i w1 S' = some S3 := by
  have len : ∀ {o : Bool} {n : Nat} {w : W} {T T' : Sx}, putW o n w T = some T' → T'.rho.length = T.rho.length ∧ ∃ c, T' = sset T n c ∧ ∀ U : Sx, U.rho.length = T.rho.length → putW o n w U = some (sset U n c) := by
    intro o n w T T' z
    unfold putW at z
    split at z
    · cases z
    · rename_i hl
      cases o with
      | true =>
        cases w with
        | new ds => cases z; exact ⟨List.length_set .., _, rfl, fun U hU => by unfold putW; rw [hU, if_neg hl]⟩
        | _ => cases z
      | false =>
        cases ec : cellOf w with
        | none => simp [ec] at z
        | some c => simp [ec] at z; subst z; exact ⟨List.length_set .., c, rfl, fun U hU => by unfold putW; rw [hU, if_neg hl]; simp [ec]⟩
  cases e1 : putW oi i w1 S with
  | none => rw [e1] at e; cases e
  | some S1 =>
    rw [e1] at e
    replace e : putW oj j w2 S1 = some S3 := e
    obtain ⟨l1, c1, rfl, u1⟩ := len e1
    obtain ⟨l2, c2, rfl, u2⟩ := len e
    refine ⟨sset S j c2, u2 S l1.symm, ?_⟩
    rw [u1 (sset S j c2) (List.length_set ..)]
    show some (sset (sset S j c2) i c1) = some (sset (sset S i c1) j c2)
    unfold sset
    simp only [List.set_comm _ _ h]
theorem js_par (hx : Hx C X) (ha : JE C Wx X a ma) (hb : JE C Wx X b mb) (hw : swappedStores [.Tuple [.Name x px, .Name y py] kt pt] (.Tuple [a, b] k2 pt2) X.env = pure (some [x, y])) (hi : X.N[i]? = some x := by rfl) (hj : X.N[j]? = some y := by rfl) (hij : i ≠ j := by decide)
    (h1 : X.env.scope.names.lookup x = some .local := by rfl) (h2 : X.env.scope.names.lookup y = some .local := by rfl)
    (hs : swapsWithSole [.Tuple [.Name x px, .Name y py] kt pt] (.Tuple [a, b] k2 pt2) pos.line X.env = pure false := by rfl)
    (s1 : starEach (a :: [b]) X.env = (false, eval a X.env) :: starEach [b] X.env := by rfl) (s2 : starEach (b :: []) X.env = (false, eval b X.env) :: starEach [] X.env := by rfl) : JS C Wx X (.Assign [.Tuple [.Name x px, .Name y py] kt pt] (.Tuple [a, b] k2 pt2) pos) (mPar oi oj i j ma mb) :=
  (ps_par hx.calm hx.nd hi hj hij h1 h2 (pa_cons ha.pe (pa_cons hb.pe pa_nil s2) s1) hw hs).weak fun D σ H ⟨ow, mu, S, R, q⟩ => by
    refine ⟨ow, mu, S, R, Post.go R.sub q fun w1 S1 v1 H1 ow1 e1 g1 p1 R1 k1 q1 => ⟨ow1, mu, S1, R1, Post.go0 g1 p1 R.sub q1 fun w2 S2 v2 H2 ow2 e2 g2 p2 R2 k2 q2 => ?_⟩⟩
    refine ⟨v1, v2, rfl, ?_⟩
    cases ep : (putW oi i w1 S2).bind (putW oj j w2) with
    | none => rw [ep] at q2; exact q2.elim
    | some S3 =>
      rw [ep] at q2
      replace q2 : PostS C Wx ow mu H (.nx S3) D := q2
      have gg := g1.trans p1 R.sub g2
      have pp := p1.trans p2
      have kw1 : WOk C ow2 mu σ H2 S2 v1 w1 := k1.1.later R1.sub g2 p2 (hb.shp _ _ _ e2)
      have n1 : WNew ow v1 w1 := k1.2
      have n2 : WNew ow1 v2 w2 := k2.2
      have n2' : WNew ow v2 w2 := n2.anti g1.1
      have m1 : ∀ ds, w1 = .new ds → ∀ p, v1 = .ref p → p ∈ ow1 := fun ds e p ev => by
        subst e
        obtain ⟨p', _, e', h', _⟩ := k1.1
        rw [e'] at ev
        cases ev
        exact h'
      have hL := R2.len
      have gone : ∀ {p : Addr}, p ∉ ow → p ∈ ow2 → Nil C.H0 p := fun {p} h1 h2 => (R2.gro.2 p h2).resolve_left fun z => h1 (R.gro.1 p z)
      have npa : ∀ {p : Addr}, p ∉ ow → p ≠ C.pa := fun h z => h (by rw [z]; exact R.paH)
      have out : ∀ {p : Addr}, p ∉ ow → p ∈ ow2 → Nil H p := fun {p} h1 h2 => (gg.2 p h2).resolve_left h1
      cases oi with
      | true =>
        -- the first is a list of its own
        have ex1 : ∃ ds, w1 = .new ds := by
          unfold putW at ep
          split at ep
          · cases ep
          · cases w1 with
            | new ds => exact ⟨ds, rfl⟩
            | _ => cases ep
        obtain ⟨ds1, rfl⟩ := ex1
        obtain ⟨pa1, vs1, rfl, a1, a2, a3, a4⟩ := kw1
        have o1 : pa1 ∉ ow := n1 ds1 rfl pa1 rfl
        cases oj with
        | true =>
          have ex2 : ∃ ds, w2 = .new ds := by
            cases e0 : putW true i (.new ds1) S2 with
            | none => rw [e0] at ep; cases ep
            | some T =>
              rw [e0] at ep
              replace ep : putW true j w2 T = some S3 := ep
              unfold putW at ep
              split at ep
              · cases ep
              · cases w2 with
                | new ds => exact ⟨ds, rfl⟩
                | _ => cases ep
          obtain ⟨ds2, rfl⟩ := ex2
          obtain ⟨pa2, vs2, rfl, b1, b2, b3, b4⟩ := k2.1
          have o2 : pa2 ∉ ow1 := n2 ds2 rfl pa2 rfl
          have o2' : pa2 ∉ ow := fun z => o2 (g1.1 _ z)
          have ne : pa2 ≠ pa1 := fun z => o2 (by rw [z]; exact m1 ds1 rfl pa1 rfl)
          unfold putW at ep
          split at ep
          · cases ep
          · rename_i l1
            replace ep : (if (sset S2 i (.lst ds1)).rho.length ≤ j then none else some (sset (sset S2 i (.lst ds1)) j (.lst ds2))) = some S3 := ep
            split at ep
            · cases ep
            · rename_i l2
              cases ep
              have l2' : j < σ.length := by
                have : (sset S2 i (.lst ds1)).rho.length = S2.rho.length := List.length_set ..
                omega
              have T1 := R2.putH (i := i) (by omega) a3 a1 a2 (npa o1) a4 (gone o1 a1)
              have T2 := T1.putH (i := j) (by rw [List.length_set]; exact l2') b3 b1 (fun z => (List.mem_cons.mp z).elim ne b2) (npa o2') b4 (gone o2' b1)
              have T3 := T2.less (ow := pa2 :: pa1 :: ow) (fun b hb => by rcases List.mem_cons.mp hb with z | z; (rw [z]; exact b1); rcases List.mem_cons.mp z with z | z; (rw [z]; exact a1); exact gg.1 b z)
                (fun b hb => by rcases List.mem_cons.mp hb with z | z; (rw [z]; exact List.mem_cons_self); rcases List.mem_cons.mp z with z | z; (rw [z]; exact List.mem_cons_of_mem _ List.mem_cons_self); exact List.mem_cons_of_mem _ (List.mem_cons_of_mem _ (R.sub b z)))
                (List.mem_cons_of_mem _ (List.mem_cons_of_mem _ R.paH)) (fun b hb => List.mem_cons_of_mem _ (List.mem_cons_of_mem _ (R.gro.1 b hb)))
              exact q2 _ _ _ H2 ⟨⟨fun b hb => List.mem_cons_of_mem _ (List.mem_cons_of_mem _ hb), fun b hb => by rcases List.mem_cons.mp hb with z | z; (rw [z]; exact .inr (out o2' b1)); rcases List.mem_cons.mp z with z | z; (rw [z]; exact .inr (out o1 a1)); exact .inl z⟩, pp,
                fun b hb => by rcases List.mem_cons.mp hb with z | z; (rw [z]; exact .inr (out o2' b1)); rcases List.mem_cons.mp z with z | z; (rw [z]; exact .inr (out o1 a1)); exact .inl z⟩ T3
        | false =>
          cases ec : cellOf w2 with
          | none =>
            unfold putW at ep
            split at ep
            · cases ep
            · replace ep : (if (sset S2 i (.lst ds1)).rho.length ≤ j then none else (cellOf w2).map (sset (sset S2 i (.lst ds1)) j)) = some S3 := ep
              rw [ec] at ep
              split at ep <;> cases ep
          | some c =>
            have T1 : S2.rho.length > i → Rel C ow2 (pa1 :: mu) (σ.set i (some (.ref pa1))) H2 (sset S2 i (.lst ds1)) := fun l => R2.putH (i := i) (by omega) a3 a1 a2 (npa o1) a4 (gone o1 a1)
            have s1 : ∀ b ∈ pa1 :: ow, b ∈ ow2 := fun b hb => (List.mem_cons.mp hb).elim (fun e => e ▸ a1) (gg.1 b)
            have wn : WNew (pa1 :: ow) v2 w2 := fun ds e p ev z => by
              rcases List.mem_cons.mp z with z | z
              · exact n2 ds e p ev (by rw [z]; exact m1 ds1 rfl pa1 rfl)
              · exact n2' ds e p ev z
            obtain ⟨z, rfl, ck⟩ := cok_of R2 s1 k2.1 wn ec
            unfold putW at ep
            split at ep
            · cases ep
            · rename_i l1
              replace ep : (if (sset S2 i (.lst ds1)).rho.length ≤ j then none else (cellOf w2).map (sset (sset S2 i (.lst ds1)) j)) = some S3 := ep
              rw [ec] at ep
              split at ep
              · cases ep
              · rename_i l2
                cases ep
                have l2' : j < σ.length := by
                  have : (sset S2 i (.lst ds1)).rho.length = S2.rho.length := List.length_set ..
                  omega
                have T2 := (T1 (by omega)).less s1 (fun b hb => (List.mem_cons.mp hb).elim (fun e => e ▸ List.mem_cons_self) fun h => List.mem_cons_of_mem _ (R.sub b h)) (List.mem_cons_of_mem _ R.paH) (fun b hb => List.mem_cons_of_mem _ (R.gro.1 b hb))
                have T3 := T2.put (i := j) (v := v2) (x := z) (by rw [List.length_set]; exact l2') (by cases z <;> exact ck)
                exact q2 _ _ _ H2 ⟨⟨fun b hb => List.mem_cons_of_mem _ hb, fun b hb => (List.mem_cons.mp hb).elim (fun e => .inr (e ▸ out o1 a1)) .inl⟩, pp, fun b hb => (List.mem_cons.mp hb).elim (fun e => .inr (e ▸ out o1 a1)) .inl⟩ T3
      | false =>
        cases oj with
        | true =>
          have swap := putW_comm hij ep
          obtain ⟨S', y1, y2⟩ := swap
          have ex2 : ∃ ds, w2 = .new ds := by
            unfold putW at y1
            split at y1
            · cases y1
            · cases w2 with
              | new ds => exact ⟨ds, rfl⟩
              | _ => cases y1
          obtain ⟨ds2, rfl⟩ := ex2
          obtain ⟨pa2, vs2, rfl, b1, b2, b3, b4⟩ := k2.1
          have o2 : pa2 ∉ ow := n2' ds2 rfl pa2 rfl
          have o21 : pa2 ∉ ow1 := n2 ds2 rfl pa2 rfl
          unfold putW at y1
          split at y1
          · cases y1
          · rename_i l1
            cases y1
            unfold putW at y2
            split at y2
            · cases y2
            · rename_i l2
              cases ec : cellOf w1 with
              | none => simp [ec] at y2
              | some c =>
                simp [ec] at y2
                subst y2
                have s1 : ∀ b ∈ pa2 :: ow, b ∈ ow2 := fun b hb => (List.mem_cons.mp hb).elim (fun e => e ▸ b1) (gg.1 b)
                have wn : WNew (pa2 :: ow) v1 w1 := fun ds e p ev z => by
                  rcases List.mem_cons.mp z with z | z
                  · exact o21 (by rw [← z]; exact m1 ds e p ev)
                  · exact n1 ds e p ev z
                obtain ⟨z, rfl, ck⟩ := cok_of R2 s1 kw1 wn ec
                have l2' : i < σ.length := by
                  have : (sset S2 j (.lst ds2)).rho.length = S2.rho.length := List.length_set ..
                  omega
                have T1 := R2.putH (i := j) (by omega) b3 b1 b2 (npa o2) b4 (gone o2 b1)
                have T2 := T1.less s1 (fun b hb => (List.mem_cons.mp hb).elim (fun e => e ▸ List.mem_cons_self) fun h => List.mem_cons_of_mem _ (R.sub b h)) (List.mem_cons_of_mem _ R.paH) (fun b hb => List.mem_cons_of_mem _ (R.gro.1 b hb))
                have T3 := T2.put (i := i) (v := v1) (x := z) (by rw [List.length_set]; exact l2') (by cases z <;> exact ck)
                rw [List.set_comm _ _ (Ne.symm hij)] at T3
                exact q2 _ _ _ H2 ⟨⟨fun b hb => List.mem_cons_of_mem _ hb, fun b hb => (List.mem_cons.mp hb).elim (fun e => .inr (e ▸ out o2 b1)) .inl⟩, pp, fun b hb => (List.mem_cons.mp hb).elim (fun e => .inr (e ▸ out o2 b1)) .inl⟩ T3
        | false =>
          cases e0 : putW false i w1 S2 with
          | none => rw [e0] at ep; cases ep
          | some T =>
            rw [e0] at ep
            replace ep : putW false j w2 T = some S3 := ep
            unfold putW at e0 ep
            split at e0
            · cases e0
            · rename_i l1
              cases ec : cellOf w1 with
              | none => simp [ec] at e0
              | some c =>
                simp [ec] at e0
                subst e0
                split at ep
                · cases ep
                · rename_i l2
                  cases ec2 : cellOf w2 with
                  | none => simp [ec2] at ep
                  | some c2 =>
                    simp [ec2] at ep
                    subst ep
                    obtain ⟨z, rfl, ck⟩ := cok_of R2 gg.1 kw1 n1 ec
                    obtain ⟨z2, rfl, ck2⟩ := cok_of R2 gg.1 k2.1 n2' ec2
                    have R3 : Rel C ow mu σ H2 S2 := R2.less gg.1 R.sub R.paH R.gro.1
                    have l2' : j < σ.length := by
                      have : (sset S2 i (.w z)).rho.length = S2.rho.length := List.length_set ..
                      omega
                    have T1 := R3.put (i := i) (v := v1) (x := z) (by omega) ck
                    have T2 := T1.put (i := j) (v := v2) (x := z2) (by rw [List.length_set]; exact l2') ck2
                    exact q2 _ _ _ H2 (PresS.of (Grow.refl _ _) pp) T2
/-- a, b = e: the tuple's items -/
def mTSet (t : Tg) (me : ME) : MS := fun S => (me S).go fun w S1 => match w with
  | .d d => (match bindT t S1 d with
    | some S2 => .nx S2
    | none => .bad)
  | _ => .bad
theorem js_tset {t : Tg} {tg : Expr} (he : JE C Wx X e me) (hg : PG X tg (tgR C.K t)) (hs : swapsWithSole [tg] e pos.line X.env = pure false := by rfl) (hw : swappedStores [tg] e X.env = pure none := by rfl) (h1 : (assignEach [tg] X.env).map (·.2) = [assign tg X.env] := by rfl) : JS C Wx X (.Assign [tg] e pos) (mTSet t me) :=
  (ps_asg he.pe hg hs hw h1).weak fun D σ H ⟨ow, mu, S, R, q⟩ => by
    refine ⟨ow, mu, S, R, Post.go R.sub q fun w S1 v H1 ow1 e1 g1 p1 R1 k1 q1 => ?_⟩
    cases w with
    | d d =>
      replace q1 : PostS C Wx ow mu H (match bindT t S1 d with
        | some S2 => .nx S2
        | none => .bad) D := q1
      cases eb : bindT t S1 d with
      | none => rw [eb] at q1; exact q1.elim
      | some S2 =>
        rw [eb] at q1
        have R2 : Rel C ow mu σ H1 S1 := R1.less g1.1 R.sub R.paH R.gro.1
        exact bindT_ok R2 (Rp.mono (hid_anti g1.1) k1.1) eb fun σ' R3 _ _ => q1 ow mu σ' H1 (PresS.of (Grow.refl _ _) p1) R3
    | _ => exact q1.elim
/-! errors -/
def mRaise (c : Nat) : MS := fun S => .ex c none S
theorem js_raise {c : Nat} {bmB : List Value} {B newId initId : String} {m : Str} {jj : Nat} {p1 p2 p3 : Pos} (hx : Hx C X) (tk : Takes X Wx) (F : ExcBaseFacts B newId initId bmB) (q : PySem.W.excIn X.K (C.cls c) bmB newId = true) (gC : X.mg x = some (.ref (C.cls c))) (kC : PySem.W.keepIn X.K (.ref (C.cls c)) = true) (r : Raises X (.ref (C.cls c)))
    (hg : Gl X x := by rfl) (hdb : (x == ("__debug__" : Str)) = false := by decide) : JS C Wx X (.Raise (some (.Call (.Name x p1) [.Constant (.str m) jj p2] [] p3)) none pos) (mRaise c) :=
  (ps_raise hx.calm tk (pmk_own F q gC kC r hg hdb)).weak fun D σ H ⟨ow, mu, S, R, q⟩ => q ow mu σ H _ _ (PresS.refl _ _ _) R ⟨rfl, rfl⟩
end
end Vf

set_option Elab.async false
set_option linter.all false
set_option maxRecDepth 100000
set_option maxHeartbeats 1000000
/-! Vf10: a < b < c as a test, truth of data, a text many times, the signs of a text, range as a list. -/
namespace Vf
open PySem PySem.Spec PyProof.Rows L2

section
variable {C : Cn} {Wx : WX} {X : Cx} {a b c e : Expr} {ma mb mc me : ME} {g g' : Sx → W → W → Option W} {r r' : R2} {pos p : Pos} {rest : List Expr}
theorem tTest_un {t : TE} (h : ∀ σ H Q, tM C Wx ma σ H Q → t σ H Q) : ∀ σ H Q, tM C Wx (mTest ma) σ H Q → tTest t σ H Q := fun σ H Q ⟨ow, mu, S, R, q⟩ =>
  h σ H _ ⟨ow, mu, S, R, Post.bind R.sub q fun x S1 v1 H1 ow1 e1 g1 p1 R1 k1 h1 => by
    obtain ⟨b, e, h2⟩ := Post.ofG h1
    exact ⟨b, wb_ok k1.1 e, h2.now R1 rfl⟩⟩
theorem chain_of {op op' : CmpOp} (ho : Op2 C r g) (ho' : Op2 C r' g') (sb : ShpM mb) (sc : ShpM mc) : ∀ σ H Q, tM C Wx (mChain g g' ma mb mc) σ H Q → tChain r r' (tM C Wx ma) (tM C Wx mb) (tM C Wx mc) σ H Q := by
  intro σ H Q ⟨ow, mu, S, R, h⟩
  refine ⟨ow, mu, S, R, Post.bind R.sub h fun x S1 v1 H1 ow1 e1 g1 p1 R1 k1 h1 => ⟨ow1, mu, S1, R1, Post.bind R1.sub h1 fun y S2 v2 H2 ow2 e2 g2 p2 R2 k2 h2 => ?_⟩⟩
  cases e : g S2 x y with
  | none => rw [e] at h2; exact h2.elim
  | some z =>
    rw [e] at h2
    dsimp only [Option.bind] at h2
    cases e' : wb z with
    | none => rw [e'] at h2; exact h2.elim
    | some k =>
      rw [e'] at h2
      refine ho ow2 mu σ H2 S2 v1 x v2 y z _ R2 (k1.1.later R1.sub g2 p2 (sb _ _ _ e2)) k2.1 e fun v H3 ow3 g3 s3 t3 k3 n3 => ⟨k, wb_ok k3 e', ?_⟩
      have R3 := R2.grow s3 g3 t3
      have h3 := Post.shift g3 (Pres.of s3) R2.sub h2
      cases k with
      | true => exact iteT ⟨ow3, mu, S2, R3, Post.bind R3.sub h3 fun y' S4 v4 H4 ow4 e4 g4 p4 R4 k4 h4 => by
          obtain ⟨z', e5, h5⟩ := Post.of h4
          exact ho' ow4 mu σ H4 S4 v2 y v4 y' z' Q R4 ((k2.1.later R2.sub g3 (Pres.of s3) (Shp.refl _)).later R3.sub g4 p4 (sc _ _ _ e4)) k4.1 e5 (Res.of h5 R4)⟩
      | false => exact iteF (Post.now (a := W.d (.bool false)) h3 R3 ⟨.bl false, WNew.d⟩)
theorem jt_chain {op op' : CmpOp} (hr : OpR X (compareOp op) r) (hr' : OpR X (compareOp op') r') (ho : Op2 C r g) (ho' : Op2 C r' g') (ha : JE C Wx X a ma) (hb : JE C Wx X b mb) (hc : JE C Wx X c mc)
    (hm : lastMarks [op, op'] [b, c] = false := by with_unfolding_all rfl) : JT C Wx X (.Compare a [op, op'] [b, c] pos) (mTest (mChain g g' ma mb mc)) :=
  ⟨(pt_chain hr hr' ha.pe hb.pe hc.pe hm).weak (tTest_un (chain_of (op := op) (op' := op') ho ho' hb.shp hc.shp)), shp_test (je_chain (pos := pos) hr hr' ho ho' ha hb hc hm).shp⟩
/-! a or b by truth -/
def truD : PyData → Option Bool
  | .none => some false
  | .bool b => some b
  | .int i => some (i != 0)
  | .str x => if x.length ≤ 16777216 then some ((x.length : Int) != 0) else none
  | .list xs => some (!xs.isEmpty)
  | .tuple xs => some (!xs.isEmpty)
  | .dict kvs => some (!kvs.isEmpty)
theorem emp_rp {K : PySem.W.Frag} {G : Hp} {vs : List V} {ds : List PyData} (r : RpAll K G vs ds) : (!ds.isEmpty) = !vs.isEmpty := by cases r <;> rfl
theorem truD_ok {K : PySem.W.Frag} {H : Hp} {v : V} {x : PyData} {k : Bool} (r : Rp K H v x) (e : truD x = some k) : TruV K v H k := by
  cases r with
  | non => cases e; rfl
  | bl b => cases e; rfl
  | int i => cases e; rfl
  | str y =>
    replace e : (if y.length ≤ 16777216 then some ((y.length : Int) != 0) else none) = some k := e
    split at e
    · rename_i h; cases e; exact ⟨szl h, rfl⟩
    · cases e
  | lst h q => cases e; exact .inl ⟨_, .inl (.inl h), emp_rp q⟩
  | tup h q => cases e; exact .inr (.inl ⟨_, h, emp_rp q⟩)
  | dct h => cases e; exact .inr (.inr ⟨_, h, rfl⟩)
def mOrTr (ma mb : ME) : ME := fun S => (ma S).bind fun w S1 => match (dview S1 w).bind truD with
  | some true => .ok w S1
  | some false => mb S1
  | none => .bad
theorem je_orT (hx : Hx C X) (ha : JE C Wx X a ma) (hb : JE C Wx X (.BoolOp .Or (b :: rest) pos) mb) : JE C Wx X (.BoolOp .Or (a :: b :: rest) pos) (mOrTr ma mb) where
  pe := (pe_orT ha.pe hb.pe).weak fun σ H Q ⟨ow, mu, S, R, h⟩ => by
    refine ⟨ow, mu, S, R, Post.bind0 (Grow.refl H ow) (Pres.refl H) R.sub h fun w S1 v H1 ow1 e1 g1 p1 R1 k1 h1 => ?_⟩
    cases ed : dview S1 w with
    | none => rw [ed] at h1; exact h1.elim
    | some x =>
      rw [ed] at h1
      replace h1 : Post C Wx ow mu σ H (match truD x with
        | some true => RE.ok w S1
        | some false => mb S1
        | none => .bad) Q := h1
      cases et : truD x with
      | none => rw [et] at h1; exact h1.elim
      | some k =>
        rw [et] at h1
        rw [hx.hK]
        refine ⟨k, truD_ok (dview_ok R1 k1.1 ed) et, ?_⟩
        cases k with
        | true => exact iteT ((show Post C Wx ow mu σ H (RE.ok w S1) Q from h1) v H1 ow1 g1 p1 R1 k1)
        | false => exact iteF ⟨ow1, mu, S1, R1, Post.shift g1 p1 R.sub h1⟩
  shp := shp_bind ha.shp fun w => fun S w' S' e => by
    replace e : (match (dview S w).bind truD with
      | some true => RE.ok w S
      | some false => mb S
      | none => .bad) = .ok w' S' := e
    split at e
    · cases e; exact Shp.refl S
    · exact hb.shp _ _ _ e
    · cases e
/-! 'x' * n -/
def gMulS : Sx → W → W → Option W := fun _ a b => match ws a, wi b with
  | some x, some n => if decide (2 ≤ n) && decide (n ≤ 1000) && decide (x.length ≤ 1000) then some (.d (.str (Txt.mul x n))) else none
  | _, _ => none
theorem op_mulS : OpR X (binaryOp .Mult) (fun x y H Q => ∃ z n, x = .str z ∧ y = .int n ∧ MulOk z n ∧ Q (.str (Txt.mul z n)) H) := by
  intro pins s σ H x y v u Q I rx ry h
  obtain ⟨z, n, rfl, rfl, hm, q⟩ := h
  obtain ⟨t, rfl⟩ := rx
  obtain ⟨t', rfl⟩ := ry
  exact SB.mul hm fun t'' k => ⟨.str _, H, I.tok _, ⟨_, rfl⟩, q⟩
theorem o_mulS : Op2 C (fun x y H Q => ∃ z n, x = .str z ∧ y = .int n ∧ MulOk z n ∧ Q (.str (Txt.mul z n)) H) gMulS := fun ow mu σ H S v1 w1 v2 w2 w Q R k1 k2 e q => by
  unfold gMulS at e
  split at e
  · rename_i x n h1 h2
    split at e
    · rename_i hc
      simp only [Bool.and_eq_true, decide_eq_true_eq] at hc
      obtain ⟨⟨c1, c2⟩, c4⟩ := hc
      cases e
      refine ⟨x, n, ws_ok k1 h1, wi_ok k2 h2, ⟨?_, fun _ _ => ?_, fun _ _ => ?_⟩, q.flat R (.str _)⟩
      · rw [decide_eq_false (by omega), decide_eq_false (by omega)]; rfl
      · have z : (1000 : Int) ≤ (2 ^ 63 - 1) / n := (Int.le_ediv_iff_mul_le (by omega)).mpr (by omega)
        omega
      · have z : x.length * n.toNat ≤ 1000 * 1000 := Nat.mul_le_mul c4 (by omega)
        show decide (_ > sizeLine) = false
        rw [sizeLine_eq]
        exact decide_eq_false (by omega)
    · cases e
  · cases e
/-! list(text) -/
def rListS : List V → Hp → VK → Prop := fun xs H Q => ∃ z, xs = [.str z] ∧ z.length ≤ sizeLine ∧ ∀ l, H l = none → Q (.ref l) (upd H l (.lst (z.cps.toList.map fun c => V.str ⟨#[c]⟩)))
theorem call_listS {k : Nat} (hr : Room k X.A) : CallR X (.type "list") rListS := by
  intro pins s σ H xs us Q I r h
  obtain ⟨z, rfl, hz, q⟩ := h
  obtain ⟨u, rfl, t, rfl⟩ := vals1 r
  refine PySem.call_list_str hr.hd z t (fun h' tk acc' c' hk hS hi => ?_) hz
  have hn : H s.heap.objs.size = none := I.hok.fresh (Nat.le_refl _)
  refine ⟨.ref s.heap.objs.size, _, I.laid (o := .lst (z.cps.toList.map fun c => V.str ⟨#[c]⟩)) hk (Nat.le_refl _) ⟨?_, acc'.toList, c', ?_, by rw [hS]⟩, rfl, q _ hn⟩
  · rw [List.length_map]; exact hz
  · have key : ∀ (l : List Nat) (us : List Value), us.length = l.length → (∀ (j : Nat) (v : Value), us[j]? = some v → ∃ (c : Nat) (u : Tok), l[j]? = some c ∧ v = Value.str ⟨#[c]⟩ u) → Vals (l.map fun c => V.str ⟨#[c]⟩) us := by
      intro l
      induction l with
      | nil => intro us h1 _; rw [List.length_eq_zero_iff.mp h1]; exact .nil
      | cons c l ih =>
        intro us h1 h2
        cases us with
        | nil => cases h1
        | cons u us =>
          obtain ⟨c', u', e1, e2⟩ := h2 0 u rfl
          cases e1
          exact .cons ⟨u', e2⟩ (ih us (by simpa using h1) fun j v e => h2 (j + 1) v e)
    refine key _ _ (by have := hi.1; simp only [Array.length_toList]; omega) fun j v e => ?_
    obtain ⟨c, u, e1, e2⟩ := hi.2 j v (by rw [← Array.getElem?_toList]; exact e)
    exact ⟨c, u, by rw [Array.getElem?_toList]; exact e1, e2⟩
def gListS : Sx → List W → Option W
  | _, [w] => match ws w with
    | some z => if z.length ≤ 16777216 then some (.new (signsD z)) else none
    | none => none
  | _, _ => none
theorem rp_signs {K : PySem.W.Frag} {G : Hp} : ∀ l : List Nat, RpAll K G (l.map fun c => V.str ⟨#[c]⟩) (l.map fun c => PyData.str ⟨#[c]⟩)
  | [] => .nil
  | c :: l => .cons (.str _) (rp_signs l)
theorem o_listS : Opn C rListS gListS := fun ow0 ow mu σ H S vs wl w Q R k e q => by
  match wl, k, e with
  | [u], k, e =>
    obtain ⟨v, rfl, k1⟩ := wall1 k
    replace e : (match ws u with
      | some z => if z.length ≤ 16777216 then some (W.new (signsD z)) else none
      | none => none) = some w := e
    split at e
    · rename_i z h1
      split at e
      · rename_i hc; cases e; exact ⟨z, by rw [ws_ok k1 h1], szl hc, fun l hl => q.newL R (rp_signs _) hl⟩
      · cases e
    · cases e
  | [], k, e => cases e
  | _ :: _ :: _, k, e => cases e
/-! list(range(..)), tuple(range(..)) -/
theorem rgV_rp {K : PySem.W.Frag} {G : Hp} (i j : Int) : RpAll K G (rgV i j) (rngD i (j - i).toNat) := by
  have key : ∀ l : List Nat, RpAll K G (l.map fun i' => V.int (i + (i' : Nat))) (l.map fun (k : Nat) => PyData.int (i + (k : Int))) := fun l => by
    induction l with
    | nil => exact .nil
    | cons a l ih => exact .cons (.int _) ih
  exact key _
def mLstR (me : ME) : ME := fun S => (me S).bind fun w S1 => match wi w with
  | some n => if 0 ≤ n ∧ n ≤ 16777216 then .ok (.new (rngD 0 n.toNat)) S1 else .bad
  | none => .bad
def mTupR (me : ME) : ME := fun S => (me S).bind fun w S1 => match wi w with
  | some n => if 0 ≤ n ∧ n ≤ 16777216 then .ok (.d (.tuple (rngD 0 n.toNat))) S1 else .bad
  | none => .bad
theorem shp_R {f : Int → W} (h : ShpM me) : ShpM (fun S => (me S).bind fun w S1 => match wi w with
  | some n => if 0 ≤ n ∧ n ≤ 16777216 then .ok (f n) S1 else .bad
  | none => .bad) := shp_bind h fun w => by
    cases wi w with
    | none => exact fun _ _ _ e => nomatch e
    | some n =>
      intro S w' S' e
      replace e : (if 0 ≤ n ∧ n ≤ 16777216 then RE.ok (f n) S else .bad) = .ok w' S' := e
      split at e
      · cases e; exact Shp.refl S
      · cases e
theorem je_listR {p2 : Pos} {pos2 : Pos} (hx : Hx C X) (h : JE C Wx X e me) (hm : X.mg "list" = none) (hm2 : X.mg "range" = none) (hg : Gl X "list" := by rfl) (hg2 : Gl X "range" := by rfl) (na : starEach [e] X.env = (false, eval e X.env) :: starEach [] X.env := by rfl)
    (na2 : starEach [.Call (.Name "range" p2) [e] [] pos2] X.env = (false, eval (.Call (.Name "range" p2) [e] [] pos2) X.env) :: starEach [] X.env := by rfl) : JE C Wx X (.Call (.Name "list" p) [.Call (.Name "range" p2) [e] [] pos2] [] pos) (mLstR me) where
  pe := (pe_listRg hx.calm hg hm (prg_1 hg2 hm2 h.pe na) na2).weak fun σ H Q ⟨ow, mu, S, R, q⟩ => by
    refine ⟨ow, mu, S, R, Post.bind R.sub q fun w S1 v H1 ow1 e1 g1 p1 R1 k1 h1 => ?_⟩
    cases ew : wi w with
    | none => rw [ew] at h1; exact h1.elim
    | some n =>
      rw [ew] at h1
      dsimp only at h1
      by_cases hz : 0 ≤ n ∧ n ≤ 16777216
      · rw [if_pos hz] at h1
        have rp : RpAll C.K (hid ow1 H1) (rgV 0 n) (rngD 0 n.toNat) := by have := rgV_rp (K := C.K) (G := hid ow1 H1) 0 n; rw [Int.sub_zero] at this; exact this
        exact ⟨n, wi_ok k1.1 ew, RgOk.of_le (Int.le_refl 0) hz.2 (by decide) hz.1, fun l hl => (Res.of h1 R1).newL R1 rp hl⟩
      · rw [if_neg hz] at h1; exact h1.elim
  shp := shp_R h.shp
theorem je_tupR {p2 : Pos} {pos2 : Pos} (hx : Hx C X) (h : JE C Wx X e me) (hm : X.mg "tuple" = none) (hm2 : X.mg "range" = none) (hg : Gl X "tuple" := by rfl) (hg2 : Gl X "range" := by rfl) (na : starEach [e] X.env = (false, eval e X.env) :: starEach [] X.env := by rfl)
    (na2 : starEach [.Call (.Name "range" p2) [e] [] pos2] X.env = (false, eval (.Call (.Name "range" p2) [e] [] pos2) X.env) :: starEach [] X.env := by rfl) : JE C Wx X (.Call (.Name "tuple" p) [.Call (.Name "range" p2) [e] [] pos2] [] pos) (mTupR me) where
  pe := (pe_tupRg hx.calm hg hm (prg_1 hg2 hm2 h.pe na) na2).weak fun σ H Q ⟨ow, mu, S, R, q⟩ => by
    refine ⟨ow, mu, S, R, Post.bind R.sub q fun w S1 v H1 ow1 e1 g1 p1 R1 k1 h1 => ?_⟩
    cases ew : wi w with
    | none => rw [ew] at h1; exact h1.elim
    | some n =>
      rw [ew] at h1
      dsimp only at h1
      by_cases hz : 0 ≤ n ∧ n ≤ 16777216
      · rw [if_pos hz] at h1
        have rp : RpAll C.K (hid ow1 H1) (rgV 0 n) (rngD 0 n.toNat) := by have := rgV_rp (K := C.K) (G := hid ow1 H1) 0 n; rw [Int.sub_zero] at this; exact this
        exact ⟨n, wi_ok k1.1 ew, RgOk.of_le (Int.le_refl 0) hz.2 (by decide) hz.1, fun l hl => (Res.of h1 R1).newT R1 rp hl⟩
      · rw [if_neg hz] at h1; exact h1.elim
  shp := shp_R h.shp
end
end Vf

set_option Elab.async false
set_option linter.all false
set_option maxRecDepth 100000
set_option maxHeartbeats 1000000
/-! Vf11: a def of the text, in the words that a printed proof uses. -/
namespace Vf
open PySem PySem.Spec PyProof.Rows L2

/-- a def of the text: where it stands, how it is called -/
structure DefOk (K : PySem.W.Frag) (mg : Str → Option Value) (x : Str) (st : Stmt) (ps : List Str) (f : Addr) (fd : FuncData) : Prop where
  F : Fun K x x st f fd
  g : mg x = some (.ref f)
  k : PySem.W.keepIn K (.ref f) = true
  b : Binds K fd ps []
section
variable {P : Program} {w : World} {K : PySem.W.Frag} {mg : Str → Option Value} {base : Heap} {cls : Nat → Addr} {T : List (Addr × Str)}
theorem fnK_go {x : Str} {st : Stmt} {f : Addr} {fd : FuncData} {N ps : List Str} {k n : Nat} {m : MS} (D : DefOk K mg x st ps f fd) (Sc : FnScope N ps (defScope st)) (hn : N.length - ps.length = n)
    (hm : ∀ (pa : Addr) (H0 : Hp) (mu0 ow0 : List Addr) (cdv : Value), fd.code = cdv → ∀ (A : Around) (outer : List Env) (s : Shared) (H : Hp) (E : XK), Room k (cxOf (L2.CX P w) P w K mg base N x (defScope st) f cdv A outer s H E).A →
      Hx ⟨⟨K, pa, cls, T⟩, H0, mu0, ow0⟩ (cxOf (L2.CX P w) P w K mg base N x (defScope st) f cdv A outer s H E) → Takes (cxOf (L2.CX P w) P w K mg base N x (defScope st) f cdv A outer s H E) (fun cl d _ H => E cl d H) →
      PassesOwn (model P w) (cxOf (L2.CX P w) P w K mg base N x (defScope st) f cdv A outer s H E).A (cxOf (L2.CX P w) P w K mg base N x (defScope st) f cdv A outer s H E).env (cxOf (L2.CX P w) P w K mg base N x (defScope st) f cdv A outer s H E).xe →
      JB ⟨⟨K, pa, cls, T⟩, H0, mu0, ow0⟩ (fun cl d _ H => E cl d H) (cxOf (L2.CX P w) P w K mg base N x (defScope st) f cdv A outer s H E) (defBody st) m) :
    FnOk P w K mg base (L2.CX P w) (k + 1) f fd ps (spF K cls T ps.length (ofBody n m)) :=
  fnK_body D.F Sc hn fun C cdv hcdv A outer s H E hK hc hT hr => by
    obtain ⟨⟨K', pa, cls', T'⟩, H0, mu0, ow0⟩ := C
    cases (show K' = K from hK)
    cases (show cls' = cls from hc)
    cases (show T' = T from hT)
    exact hm pa H0 mu0 ow0 cdv hcdv A outer s H E hr ⟨rfl, rfl, Sc.nd⟩ (takes_of rfl rfl rfl rfl) (passes_of (X := cxOf (L2.CX P w) P w K mg base N x (defScope st) f cdv A outer s H E) (K := fun e s'' => L2.CX P w outer H s E e s'') (E₁ := fun e' s'' => L2.CX P w outer H s E e' s'') rfl)
theorem fnG_go {x : Str} {st : Stmt} {f : Addr} {fd : FuncData} {N ps : List Str} {k n : Nat} {m : MS} (D : DefOk K mg x st ps f fd) (Sc : FnScope N ps (defScope st)) (hn : N.length - ps.length = n)
    (hm : ∀ (pa : Addr) (H0 : Hp) (mu0 ow0 : List Addr) (cdv : Value), fd.code = cdv → ∀ (A : Around) (outer : List Env) (s : Shared) (H : Hp) (E : XK), Room k (cxOf (L2.CX P w) P w K mg base N x (defScope st) f cdv A outer s H E).A → (cxOf (L2.CX P w) P w K mg base N x (defScope st) f cdv A outer s H E).A.guards = some [] →
      Hx ⟨⟨K, pa, cls, T⟩, H0, mu0, ow0⟩ (cxOf (L2.CX P w) P w K mg base N x (defScope st) f cdv A outer s H E) → Takes (cxOf (L2.CX P w) P w K mg base N x (defScope st) f cdv A outer s H E) (fun cl d _ H => E cl d H) →
      PassesOwn (model P w) (cxOf (L2.CX P w) P w K mg base N x (defScope st) f cdv A outer s H E).A (cxOf (L2.CX P w) P w K mg base N x (defScope st) f cdv A outer s H E).env (cxOf (L2.CX P w) P w K mg base N x (defScope st) f cdv A outer s H E).xe →
      JB ⟨⟨K, pa, cls, T⟩, H0, mu0, ow0⟩ (fun cl d _ H => E cl d H) (cxOf (L2.CX P w) P w K mg base N x (defScope st) f cdv A outer s H E) (defBody st) m) :
    FnG P w K mg base (L2.CX P w) (k + 1) f fd ps (spF K cls T ps.length (ofBody n m)) :=
  fnG_body D.F Sc hn fun C cdv hcdv A outer s H E hK hc hT hr hg => by
    obtain ⟨⟨K', pa, cls', T'⟩, H0, mu0, ow0⟩ := C
    cases (show K' = K from hK)
    cases (show cls' = cls from hc)
    cases (show T' = T from hT)
    exact hm pa H0 mu0 ow0 cdv hcdv A outer s H E hr hg ⟨rfl, rfl, Sc.nd⟩ (takes_of rfl rfl rfl rfl) (passes_of (X := cxOf (L2.CX P w) P w K mg base N x (defScope st) f cdv A outer s H E) (K := fun e s'' => L2.CX P w outer H s E e s'') (E₁ := fun e' s'' => L2.CX P w outer H s E e' s'') rfl)
end
section
variable {C : Cn} {Wx : WX} {X : Cx}
theorem Hx.blk (h : Hx C X) (s : Shared) (H : Hp) (scope : Scope) (cenv : Env) (fp : List Addr) : Hx C (X.blk s H scope cenv fp) := ⟨h.hK, h.calm, h.nd⟩
/-- a module's whole number, text -/
theorem je_gint {x : Str} {i : Int} {p : Pos} (h : ∃ t, X.mg x = some (.int i t)) (hg : Gl X x := by rfl) (hd : (x == ("__debug__" : Str)) = false := by decide) : JE C Wx X (.Name x p) (mC (.int i)) := by
  obtain ⟨t, h⟩ := h
  exact je_c (v := .int i) (pe_glob hg h ⟨t, rfl⟩ hd)
theorem je_gstr {x y : Str} {p : Pos} (h : ∃ t, X.mg x = some (.str y t)) (hg : Gl X x := by rfl) (hd : (x == ("__debug__" : Str)) = false := by decide) : JE C Wx X (.Name x p) (mC (.str y)) := by
  obtain ⟨t, h⟩ := h
  exact je_c (v := .str y) (pe_glob hg h ⟨t, rfl⟩ hd)
end
/-- a comprehension's own names, by the names around it -/
def rel2 (scope sc : Scope) : Scope :=
  { scope with names := scope.names.map fun (n, k) => if (k == .free && sc.kind == .function && sc.names.lookup n == some .cell) then (n, .cell) else (n, k) }
theorem relabel_eq {scope : Scope} {env : Env} : relabel scope env = rel2 scope env.scope := rfl
def mSto (o : Bool) (i : Nat) (me : ME) : MS := match o with
  | true => mSetO i me
  | false => mSet i me
section
variable {C : Cn} {Wx : WX} {X : Cx} {tg iter elt : Expr} {ifs : List Expr} {scope : Scope} {own : List (Str × Nat)} {mi : MI} {mt : MT} {me : ME} {t : Tg} {pos : Pos}
theorem sto_of {i : Nat} {o : Bool} : ∀ D σ H, tS C Wx (mSto o i me) D σ H → tAsg (tM C Wx me) (gName i) D σ H := by
  cases o with
  | true => exact setO_of
  | false => exact set_of
/-- x = [..], a local name; x a list of its own -/
theorem js_setLc {i : Nat} {y : Str} {py spos : Pos} {o : Bool} (hx : Hx C X) (hi : JI C Wx X tg iter mi) (ok : BlkOk X.N X.env.scope scope own) (hv : ∀ i ∈ t.vs, i ∈ own.map (·.2))
    (hg : ∀ (s : Shared) (H : Hp) (D : Addr) (cl : List (Str × Addr)) (fp : List Addr), PG (X.blk s H scope (compEnvC scope cl D X.env) fp) tg (tgR C.K t)) (ht : ∀ (s : Shared) (H : Hp) (D : Addr) (cl : List (Str × Addr)) (fp : List Addr), JC C (X.blk s H scope (compEnvC scope cl D X.env) fp) ifs mt)
    (he : ∀ (s : Shared) (H : Hp) (D : Addr) (cl : List (Str × Addr)) (fp : List Addr), JE C NoX (X.blk s H scope (compEnvC scope cl D X.env) fp) elt me) (s0 : Shared) (hsw : swapsWith (.ListComp elt [⟨tg, iter, ifs, 0⟩] scope pos) (some (.Name y py)) spos.line X.env = pure true) (hy : X.N[i]? = some y := by rfl) (hyl : X.env.scope.names.lookup y = some .local := by rfl)
    (hs : ∀ x, foldedSetIterable iter X.env x = pure x := by intro _; rfl) :
    JS C Wx X (.Assign [.Name y py] (.ListComp elt [⟨tg, iter, ifs, 0⟩] scope pos) spos) (mSto o i (mComp t (own.map (·.2)) mi mt me)) :=
  (ps_setLc hx.calm hx.nd hy hyl hsw hi.pi ok hg (fun s H D cl fp => (ht s H D cl fp).pts) (fun s H D cl fp => (he s H D cl fp).pe) hs).weak fun D σ H h => lc_of hi hv ht he s0 σ H _ (sto_of D σ H h)
end
end Vf

set_option Elab.async false
set_option linter.all false
set_option maxRecDepth 100000
set_option maxHeartbeats 1000000
/-! Vf12: an item taken out of a list of a slot; comprehensions that change such lists. -/
namespace Vf
open PySem PySem.Spec PyProof.Rows L2

section
variable {C : Cn} {Wx : WX} {X : Cx} {e : Expr} {me : ME} {x y : Str} {p p2 pos apos cpos : Pos} {i j : Nat}
/-- x.pop(e) -/
def mPop1 (i : Nat) (w : W) (S1 : Sx) : RE W := match olist S1 i, wi w with
  | some ds, some k => if -(2 ^ 63) ≤ k ∧ k < 2 ^ 63 then (match ixN ds.length k with
    | some j => (match ds[j]? with
      | some d => .ok (.d d) (sset S1 i (.lst (ds.eraseIdx j)))
      | none => .bad)
    | none => .bad) else .bad
  | _, _ => .bad
def mPop (i : Nat) (me : ME) : ME := fun S => match olist S i with
  | none => .bad
  | some _ => (me S).bind fun w S1 => mPop1 i w S1
theorem pe_pop (hN : PE X (.Name x p) (tVar i)) (he : JE C Wx X e me)
    (hbase : attributeBase (.Name x p) "pop" X.env (eval (.Name x p) X.env) = eval (.Name x p) X.env := by rfl)
    (hfew : ((backTo cpos (starEach (e :: []) X.env)).all (fun x => !x.1) && (backToKw cpos (keywordEach [] X.env)).all (fun x => x.1.isSome) && decide ((e :: []).length + ([] : List Keyword).length + (if ([] : List Keyword).isEmpty then 0 else 1) < 30)) = true := by rfl)
    (hline : (apos.endLine == cpos.line) = true := by rfl) (hs : starEach (e :: []) X.env = (false, eval e X.env) :: starEach [] X.env := by rfl) (hplain : (backTo cpos (starEach [] X.env)).any (·.1) = false := by rfl) :
    PE X (.Call (.Attribute (.Name x p) "pop" apos) [e] [] cpos) (tM C Wx (mPop i me)) :=
  (pe_bm PySem.F.plainAttrs_list PySem.F.slot_list_pop PySem.F.type_list_pop mt_popAt hN (pa_cons he.pe pa_nil hs) hbase hfew hline hs hplain).weak fun σ H Q ⟨ow, mu, S, R, q⟩ => by
    unfold mPop at q
    cases eo : olist S i with
    | none => rw [eo] at q; exact q.elim
    | some ds0 =>
      rw [eo] at q
      obtain ⟨v, h1, a, vs, rfl, h3, h4, h5, h6⟩ := R.cells i _ (olist_ok eo)
      refine ⟨.ref a, h1, .inl ⟨rfl, vs, .inl (.inl h5)⟩, ow, mu, S, R, Post.bind R.sub q fun w S1 y H1 ow1 e1 g1 p1 R1 k1 q1 => ?_⟩
      unfold mPop1 at q1
      split at q1
      · rename_i ds k eo1 ek
        by_cases hz : -(2 ^ 63) ≤ k ∧ k < 2 ^ 63
        · rw [if_pos hz] at q1
          split at q1
          · rename_i j ej
            split at q1
            · rename_i d ed
              obtain ⟨v', z1, a', us, z2, z3, z4, z5, z6⟩ := R1.cells i _ (olist_ok eo1)
              rw [h1] at z1
              cases z1
              cases z2
              obtain ⟨yv, hy, ry⟩ := z6.get ed
              have ev := wi_ok k1.1 ek
              obtain ⟨s1, s2, s3, s4⟩ := ixN_seq ej
              refine ⟨a, us, k, j, yv, rfl, by rw [ev], z5, hz.1, hz.2, by rw [z6.length]; exact s1, hy, ?_⟩
              have R3 := R1.ownSet (olist_ok eo1) h1 (z6.eraseIdx j)
              obtain ⟨eh, pm⟩ := upd_mu (o := .lst (us.eraseIdx j)) R1 z3
              refine q1 yv _ ow1 (Grow.refl _ _) pm R3 ⟨?_, WNew.d⟩
              show Rp C.K (hid ow1 (upd H1 a (.lst (us.eraseIdx j)))) yv d
              rw [eh]
              exact ry
            · exact q1.elim
          · exact q1.elim
        · rw [if_neg hz] at q1; exact q1.elim
      · exact q1.elim
end
/-! ### comprehensions whose block changes lists of slots -/
def restS (vs : List Nat) (S S2 : Sx) : Sx := ⟨vs.foldr (fun v rho => rho.set v (S.rho.getD v none)) S2.rho, S2.pen⟩
theorem restS_get {S S2 : Sx} {c : Option Cell} {i : Nat} : ∀ {vs : List Nat}, (vs.foldr (fun v rho => rho.set v (S.rho.getD v none)) S2.rho)[i]? = some c → (i ∈ vs ∧ c = S.rho.getD i none) ∨ (i ∉ vs ∧ S2.rho[i]? = some c)
  | [], h => .inr ⟨List.not_mem_nil, h⟩
  | v :: vs, h => by
    rw [List.foldr_cons] at h
    rcases set_get h with ⟨rfl, rfl⟩ | ⟨n, h⟩
    · exact .inl ⟨List.mem_cons_self, rfl⟩
    · rcases restS_get h with ⟨m, e⟩ | ⟨m, e⟩
      · exact .inl ⟨List.mem_cons_of_mem _ m, e⟩
      · exact .inr ⟨fun z => (List.mem_cons.mp z).elim n m, e⟩
theorem restS_len {S S2 : Sx} : ∀ vs : List Nat, (vs.foldr (fun v rho => rho.set v (S.rho.getD v none)) S2.rho).length = S2.rho.length
  | [] => rfl
  | v :: vs => by rw [List.foldr_cons, List.length_set]; exact restS_len vs
theorem noOwn_rest {S S2 : Sx} {vs : List Nat} {σ σ2 : L2.St} (h : noOwn S vs = true) (e1 : σ.length = S.rho.length) (e2 : σ2.length = S2.rho.length) (e3 : σ2.length = σ.length) : noOwn (restS vs S S2) vs = true := by
  unfold noOwn at h ⊢
  rw [List.all_eq_true] at h ⊢
  intro i hi
  have hh := h i hi
  cases e : (restS vs S S2).rho[i]? with
  | none => rfl
  | some c =>
    rcases restS_get (show (vs.foldr (fun v rho => rho.set v (S.rho.getD v none)) S2.rho)[i]? = some c from e) with ⟨_, rfl⟩ | ⟨n, _⟩
    · cases e4 : S.rho[i]? with
      | none => rw [List.getD_eq_getElem?_getD, e4]; rfl
      | some c' =>
        rw [e4] at hh
        rw [List.getD_eq_getElem?_getD, e4]
        exact hh
    · exact (n hi).elim
/-- a block that changed lists of slots: its state seen from outside -/
theorem Rel.backL {C : Cn} {ow mu : List Addr} {σ σ2 : L2.St} {H H' : Hp} {S S2 : Sx} {vs : List Nat} (r : Rel C ow mu σ H S) (r2 : Rel C ow mu σ2 H' S2) (p : Pres mu H H') (hn : noOwn S vs = true) (hσ : ∀ i, i ∉ vs → σ2[i]? = σ[i]?) (hl : σ2.length = σ.length := by assumption) :
    Rel C ow mu σ H' (restS vs S S2) where
  sub := r.sub
  trk := r2.trk
  tab := r2.tab
  len := by rw [← hl, r2.len]; exact (restS_len vs).symm
  paH := r.paH
  base := base_step r p
  fresh := r.fresh
  gro := r.gro
  m0 := r.m0
  cells := fun i c e => by
    rcases restS_get (show (vs.foldr (fun v rho => rho.set v (S.rho.getD v none)) S2.rho)[i]? = some (some c) from e) with ⟨hi, e⟩ | ⟨hi, e⟩
    · have e5 : S.rho[i]? = some (some c) := by
        rw [List.getD_eq_getElem?_getD] at e
        cases e6 : S.rho[i]? with
        | none => rw [e6] at e; cases e
        | some d => rw [e6] at e; exact congrArg some e.symm
      obtain ⟨v, h1, h2⟩ := r.cells i c e5
      refine ⟨v, h1, ?_⟩
      have hs : Sub (hid ow H) (hid ow H') := hid_pres r.sub p
      cases c with
      | w x => cases x with
        | d x => exact Rp.mono hs h2
        | pen => exact h2
        | exc c l => obtain ⟨a, z, q⟩ := h2; exact ⟨a, z, excV_mono hs q⟩
        | xv y => exact xv_mono hs h2
        | new _ => exact h2
        | own _ => exact h2
      | lst ds =>
        have := List.all_eq_true.mp hn i hi
        rw [e5] at this
        cases this
    · obtain ⟨v, h1, h2⟩ := r2.cells i c e
      exact ⟨v, by rw [← hσ i hi]; exact h1, h2⟩
  inj := fun i j ds es v h1 h2 h3 h4 => by
    have key : ∀ {k : Nat} {fs : List PyData}, (restS vs S S2).rho[k]? = some (some (.lst fs)) → k ∉ vs ∧ S2.rho[k]? = some (some (.lst fs)) := fun {k fs} e => by
      rcases restS_get (show (vs.foldr (fun v rho => rho.set v (S.rho.getD v none)) S2.rho)[k]? = some (some (.lst fs)) from e) with ⟨hi, e⟩ | q
      · have := List.all_eq_true.mp hn k hi
        rw [List.getD_eq_getElem?_getD] at e
        cases e6 : S.rho[k]? with
        | none => rw [e6] at e; cases e
        | some d =>
          rw [e6] at e this
          replace e : some (Cell.lst fs) = d := e
          subst e
          cases this
      · exact q
    obtain ⟨n1, q1⟩ := key h1
    obtain ⟨n2, q2⟩ := key h2
    exact r2.inj i j ds es v q1 q2 (by rw [hσ i n1]; exact h3) (by rw [hσ j n2]; exact h4)
  pen := r2.pen
def compSL (t : Tg) (vs : List Nat) (mt : MT) (me : ME) : List PyData → List PyData → Sx → RE (List PyData)
  | [], acc, S => .ok acc S
  | d :: ds, acc, S => match bindT t (wipeS S vs) d with
    | none => .bad
    | some S1 => (mt S1).bindB fun b S2 => match b with
      | false => compSL t vs mt me ds acc (restS vs S S2)
      | true => (me S2).bindB fun w S3 => match argD w with
        | some x => compSL t vs mt me ds (acc ++ [x]) (restS vs S S3)
        | none => .bad
def mCompL (t : Tg) (vs : List Nat) (mi : MI) (mt : MT) (me : ME) : ME := fun S => (mi S).bind fun ds S1 => if noOwn S1 vs && decide (ds.length ≤ 16777215) then fin (compSL t vs mt me ds [] S1) else .bad
section
variable {C : Cn} {Wx : WX} {X : Cx} {tg iter elt : Expr} {ifs : List Expr} {scope : Scope} {own : List (Str × Nat)} {mi : MI} {mt : MT} {me : ME} {t : Tg} {pos : Pos}
theorem lcL_of (hi : JI C Wx X tg iter mi) (hv : ∀ i ∈ t.vs, i ∈ own.map (·.2))
    (ht : ∀ (s : Shared) (H : Hp) (D : Addr) (cl : List (Str × Addr)) (fp : List Addr), JC C (X.blk s H scope (compEnvC scope cl D X.env) fp) ifs mt)
    (s0 : Shared) :
    ∀ σ H Q, tM C Wx (mCompL t (own.map (·.2)) mi mt me) σ H Q → tLc (tM C Wx mi) (tgR C.K t) (tM C NoX mt) (tM C NoX me) (own.map (·.2)) σ H Q := by
  intro σ H Q ⟨ow, mu, S, R, q⟩
  refine ⟨ow, mu, S, R, Post.bind0 (Grow.refl H ow) (Pres.refl H) R.sub q fun ds S1 J H1 ow1 e1 g1 p1 R1 wk h1 => fun D hD => ?_⟩
  by_cases hc : (noOwn S1 (own.map (·.2)) && decide (ds.length ≤ 16777215)) = true
  case neg => rw [if_neg hc] at h1; exact h1.elim
  rw [if_pos hc] at h1
  obtain ⟨hno, hlen⟩ := Bool.and_eq_true_iff.mp hc
  have hlen := of_decide_eq_true hlen
  have nD1 : D ∉ ow1 := new_out R1 hD
  have nDm : D ∉ mu := fun z => nD1 (R1.sub D z)
  have gD : Grow H1 ow1 (D :: ow1) := grow_cons hD
  have hD0 : Nil C.H0 D := by
    show noTbl (C.H0 D) = none
    cases e : noTbl (C.H0 D) with
    | none => rfl
    | some o =>
      obtain ⟨e1, t⟩ := noTbl_some e
      have := R1.base D o (fun z => nD1 (R1.gro.1 D (R1.m0 D z))) t e1
      rw [hD] at this; cases this
  have R1' : Rel C (D :: ow1) mu σ (upd H1 D (.lst [])) S1 := R1.grow (sub_upd hD) gD fun b hb => by
    rcases List.mem_cons.mp hb with e | e
    · exact ⟨_, by rw [e, upd_same], by intro _ z; cases z⟩
    · exact trk_upd R1 (by intro _ z; cases z) b e
  refine ⟨fun i m H' => m = ds.length - i ∧ i ≤ ds.length ∧ ∃ S' acc vacc, Rel C (D :: ow1) mu σ H' S' ∧ noOwn S' (own.map (·.2)) = true ∧ Pres mu H1 H' ∧ H' D = some (.lst vacc) ∧ RpAll C.K (hid (D :: ow1) H') vacc acc ∧ acc.length ≤ i ∧
    Post C Wx ow mu σ H (fin (compSL t (own.map (·.2)) mt me (ds.drop i) acc S')) Q, ⟨_, rfl, Nat.zero_le _, S1, [], [], R1', hno, Pres.of (sub_upd hD), upd_same, .nil, Nat.le_refl _, h1⟩, ?_⟩
  rintro i m H' ⟨rfl, hi, S', acc, vacc, R', hno', p', hD', ra, hacc, h'⟩
  by_cases hlt : i < ds.length
  · right
    have memD : D ∈ D :: ow1 := List.mem_cons_self
    refine ⟨wk.go i H' hlt (p'.mono R.sub), fun H'' => ∃ S' acc vacc, Rel C (D :: ow1) mu σ H'' S' ∧ noOwn S' (own.map (·.2)) = true ∧ Pres mu H1 H'' ∧ H'' D = some (.lst vacc) ∧ RpAll C.K (hid (D :: ow1) H'') vacc acc ∧ acc.length ≤ i + 1 ∧
      Post C Wx ow mu σ H (fin (compSL t (own.map (·.2)) mt me (ds.drop (i + 1)) acc S')) Q, fun H'' z => ⟨ds.length - (i + 1), by omega, rfl, hlt, z⟩, fun y H'' hy => ?_⟩
    obtain ⟨d, hd, sb, rp⟩ := wk.yld i H' y H'' hlt (p'.mono R.sub) hy
    have ed : ds.drop i = d :: ds.drop (i + 1) := by
      rw [List.drop_eq_getElem_cons hlt]
      rw [List.getElem?_eq_getElem hlt] at hd
      cases hd
      rfl
    rw [ed] at h'
    have R3 : Rel C (D :: ow1) mu σ H'' S' := R'.grow sb (Grow.refl _ _) fun b hb => by obtain ⟨o, z, t⟩ := R'.trk b hb; exact ⟨o, sb _ _ z, t⟩
    have rp' := rp (D :: ow1) gD R'.trk
    unfold compSL at h'
    cases eb : bindT t (wipeS S' (own.map (·.2))) d with
    | none => rw [eb] at h'; exact h'.elim
    | some S3 =>
      rw [eb] at h'
      dsimp only at h'
      refine bindT_ok (R3.wiped _) rp' eb fun σ3 R4 kσ lσ => ⟨wipe_eq (by rw [lσ, wipe_length]) fun j hj => ?_, (D :: ow1), mu, S3, R4, ?_⟩
      · rw [kσ j (fun z => hj (hv j z)), wipe_out hj]
      have lσ3 : σ3.length = σ.length := by rw [lσ, wipe_length]
      have hσ3 : ∀ j, j ∉ own.map (·.2) → σ3[j]? = σ[j]? := fun j hj => by rw [kσ j (fun z => hj (hv j z)), wipe_out hj]
      -- the test
      cases er : mt S3 with
      | ex c l S5 => rw [er] at h'; exact h'.elim
      | bad => rw [er] at h'; exact h'.elim
      | ok b S4 =>
        rw [er] at h'
        dsimp only [RE.bindB] at h'
        intro bb H4 ow4 g4 p4 R5 kb
        cases (show bb = b from kb)
        have R5' : Rel C (D :: ow1) mu σ3 H4 S4 := R5.less g4.1 R4.sub R4.paH R4.gro.1
        have pre4 : Pres mu H' H4 := (Pres.of sb).trans p4
        have hD4 : H4 D = some (.lst vacc) := pre4 D _ nDm (by intro _ z; cases z) hD'
        have ra4 : RpAll C.K (hid (D :: ow1) H4) vacc acc := ra.mono (hid_pres R'.sub pre4)
        cases b with
        | false => exact iteF ⟨restS (own.map (·.2)) S' S4, acc, vacc, R'.backL R5' pre4 hno' hσ3, noOwn_rest hno' R'.len R5'.len lσ3, p'.trans pre4, hD4, ra4, by omega, h'⟩
        | true =>
          refine iteT ⟨ow4, mu, S4, R5, ?_⟩
          cases ee : me S4 with
          | ex c l S6 => rw [ee] at h'; exact h'.elim
          | bad => rw [ee] at h'; exact h'.elim
          | ok w S6 =>
            rw [ee] at h'
            dsimp only [RE.bindB] at h'
            cases ex : argD w with
            | none => rw [ex] at h'; exact h'.elim
            | some x =>
              rw [ex] at h'
              dsimp only at h'
              intro z H6 ow6 g6 p6 R7 k6
              have R7' : Rel C (D :: ow1) mu σ3 H6 S6 := R7.less (fun b hb => g6.1 b (g4.1 b hb)) R4.sub R4.paH R4.gro.1
              have pre6 : Pres mu H' H6 := pre4.trans p6
              have hD6 : H6 D = some (.lst vacc) := pre6 D _ nDm (by intro _ z; cases z) hD'
              have R8 := R'.backL R7' pre6 hno' hσ3
              obtain ⟨R9, eh⟩ := rel_upd (o := .lst (vacc ++ [z])) R8 memD nDm hD0 hD6
              have rz : RpAll C.K (hid (D :: ow1) H6) [z] [x] := argDs_ok (ow := D :: ow1) (ow' := ow6) (wl := [w]) (fun b hb => g6.1 b (g4.1 b hb)) (.cons k6.1 (k6.2.anti g4.1) .nil) (by unfold argDs; rw [ex]; rfl)
              have hz := ra4.length
              refine ⟨vacc, hD6, ?_, restS (own.map (·.2)) S' S6, acc ++ [x], vacc ++ [z], R9, noOwn_rest hno' R'.len R7'.len lσ3, ?_, upd_same, ?_, by simp; omega, h'⟩
              · rw [hz, sizeLine_eq]; omega
              · exact fun b o nb t hb => by rw [upd_ne (fun e => by rw [e, hD] at hb; cases hb)]; exact (p'.trans pre6) b o nb t hb
              · rw [eh]; exact (ra.mono (hid_pres R'.sub pre6)).append rz
  · left
    have ei : i = ds.length := by omega
    subst ei
    rw [List.drop_length] at h'
    refine ⟨wk.stop H' (p'.mono R.sub), ?_⟩
    have gg : Grow H ow (D :: ow1) := g1.trans p1 R.sub gD
    have nDo : D ∉ ow := fun z => nD1 (g1.1 D z)
    exact (show Post C Wx ow mu σ H (RE.ok (W.new acc) S') Q from h') (.ref D) H' (D :: ow1) gg (p1.trans p') R' ⟨⟨D, vacc, rfl, List.mem_cons_self, nDm, hD', ra⟩, fun _ _ p e => by cases e; exact nDo⟩
theorem pe_lcL (hx : Hx C X) (hi : JI C Wx X tg iter mi) (ok : BlkOk X.N X.env.scope scope own) (hv : ∀ i ∈ t.vs, i ∈ own.map (·.2))
    (hg : ∀ (s : Shared) (H : Hp) (D : Addr) (cl : List (Str × Addr)) (fp : List Addr), PG (X.blk s H scope (compEnvC scope cl D X.env) fp) tg (tgR C.K t)) (ht : ∀ (s : Shared) (H : Hp) (D : Addr) (cl : List (Str × Addr)) (fp : List Addr), JC C (X.blk s H scope (compEnvC scope cl D X.env) fp) ifs mt)
    (he : ∀ (s : Shared) (H : Hp) (D : Addr) (cl : List (Str × Addr)) (fp : List Addr), PE (X.blk s H scope (compEnvC scope cl D X.env) fp) elt (tM C NoX me)) (s0 : Shared) (hs : ∀ x, foldedSetIterable iter X.env x = pure x := by intro _; rfl) :
    PE X (.ListComp elt [⟨tg, iter, ifs, 0⟩] scope pos) (tM C Wx (mCompL t (own.map (·.2)) mi mt me)) :=
  (pe_lc hx.calm hx.nd hi.pi ok hg (fun s H D cl fp => (ht s H D cl fp).pts) (fun s H D cl fp => he s H D cl fp) hs).weak (lcL_of hi hv ht s0)
theorem jp_ret {e : Expr} {me : ME} (h : PE X e (tM C Wx me)) : JS C Wx X (.Return (some e) pos) (mRet me) := (ps_ret h).weak fun D σ H ⟨ow, mu, S, R, h⟩ =>
  ⟨ow, mu, S, R, Post.go R.sub h fun a S1 v H1 ow1 e1 g p R1 k h1 => h1 v ow1 mu σ H1 (PresS.of g p) R1 k.1 k.2⟩
end
end Vf

set_option Elab.async false
set_option linter.all false
set_option maxRecDepth 100000
set_option maxHeartbeats 1000000
/-! Vf13: three names at once. -/
namespace Vf
open PySem PySem.Spec PyProof.Rows L2

def putP (i : Nat) (w : W) (S : Sx) : Option Sx := if S.rho.length ≤ i then none else (cellOf w).map (sset S i)
def mPar3 (i j l : Nat) (ma mb mc : ME) : MS := fun S => (ma S).go fun w1 S1 => (mb S1).go fun w2 S2 => (mc S2).go fun w3 S3 => match ((putP i w1 S3).bind (putP j w2)).bind (putP l w3) with
  | some S4 => .nx S4
  | none => .bad
theorem putP_ok {i : Nat} {w : W} {S S' : Sx} (h : putP i w S = some S') : i < S.rho.length ∧ ∃ c, cellOf w = some c ∧ S' = sset S i c := by
  unfold putP at h
  split at h
  · cases h
  · cases ec : cellOf w with
    | none => simp [ec] at h
    | some c => simp [ec] at h; exact ⟨by omega, c, rfl, h.symm⟩
section
variable {C : Cn} {Wx : WX} {X : Cx} {a b c : Expr} {ma mb mc : ME} {x y z : Str} {px py pz pt pos : Pos} {kt k2 : Nat} {pt2 : Pos} {i j l : Nat}
theorem js_par3 (hx : Hx C X) (ha : JE C Wx X a ma) (hb : JE C Wx X b mb) (hc : JE C Wx X c mc) (hw : swappedStores [.Tuple [.Name x px, .Name y py, .Name z pz] kt pt] (.Tuple [a, b, c] k2 pt2) X.env = pure (some [x, y, z])) (hi : X.N[i]? = some x := by rfl) (hj : X.N[j]? = some y := by rfl) (hl : X.N[l]? = some z := by rfl) (hij : i ≠ j := by decide) (hil : i ≠ l := by decide) (hjl : j ≠ l := by decide)
    (h1 : X.env.scope.names.lookup x = some .local := by rfl) (h2 : X.env.scope.names.lookup y = some .local := by rfl) (h3 : X.env.scope.names.lookup z = some .local := by rfl)
    (hs : swapsWithSole [.Tuple [.Name x px, .Name y py, .Name z pz] kt pt] (.Tuple [a, b, c] k2 pt2) pos.line X.env = pure false := by rfl)
    (s1 : starEach (a :: [b, c]) X.env = (false, eval a X.env) :: starEach [b, c] X.env := by rfl) (s2 : starEach (b :: [c]) X.env = (false, eval b X.env) :: starEach [c] X.env := by rfl) (s3 : starEach (c :: []) X.env = (false, eval c X.env) :: starEach [] X.env := by rfl) : JS C Wx X (.Assign [.Tuple [.Name x px, .Name y py, .Name z pz] kt pt] (.Tuple [a, b, c] k2 pt2) pos) (mPar3 i j l ma mb mc) :=
  (ps_par3 hx.calm hx.nd hi hj hl hij hil hjl h1 h2 h3 (pa_cons ha.pe (pa_cons hb.pe (pa_cons hc.pe pa_nil s3) s2) s1) hw hs).weak fun D σ H ⟨ow, mu, S, R, q⟩ => by
    refine ⟨ow, mu, S, R, Post.go R.sub q fun w1 S1 v1 H1 ow1 e1 g1 p1 R1 k1 q1 => ⟨ow1, mu, S1, R1, Post.go0 g1 p1 R.sub q1 fun w2 S2 v2 H2 ow2 e2 g2 p2 R2 k2 q2 => ⟨ow2, mu, S2, R2, Post.go0 (g1.trans p1 R.sub g2) (p1.trans p2) R.sub q2 fun w3 S3 v3 H3 ow3 e3 g3 p3 R3 k3 q3 => ?_⟩⟩⟩
    refine ⟨v1, v2, v3, rfl, ?_⟩
    cases ep : ((putP i w1 S3).bind (putP j w2)).bind (putP l w3) with
    | none => rw [ep] at q3; exact q3.elim
    | some S4 =>
      rw [ep] at q3
      replace q3 : PostS C Wx ow mu H (.nx S4) D := q3
      have g12 := g1.trans p1 R.sub g2
      have gg := g12.trans (p1.trans p2) R.sub g3
      have pp := (p1.trans p2).trans p3
      have kw1 : WOk C ow3 mu σ H3 S3 v1 w1 := (k1.1.later R1.sub g2 p2 (hb.shp _ _ _ e2)).later R2.sub g3 p3 (hc.shp _ _ _ e3)
      have kw2 : WOk C ow3 mu σ H3 S3 v2 w2 := k2.1.later R2.sub g3 p3 (hc.shp _ _ _ e3)
      cases ep1 : putP i w1 S3 with
      | none => rw [ep1] at ep; cases ep
      | some T1 =>
        rw [ep1] at ep
        replace ep : (putP j w2 T1).bind (putP l w3) = some S4 := ep
        cases ep2 : putP j w2 T1 with
        | none => rw [ep2] at ep; cases ep
        | some T2 =>
          rw [ep2] at ep
          replace ep : putP l w3 T2 = some S4 := ep
          obtain ⟨l1, c1, ec1, rfl⟩ := putP_ok ep1
          obtain ⟨l2, c2, ec2, rfl⟩ := putP_ok ep2
          obtain ⟨l3, c3, ec3, rfl⟩ := putP_ok ep
          obtain ⟨z1, rfl, ck1⟩ := cok_of R3 gg.1 kw1 k1.2 ec1
          obtain ⟨z2, rfl, ck2⟩ := cok_of R3 gg.1 kw2 (k2.2.anti g1.1) ec2
          obtain ⟨z3, rfl, ck3⟩ := cok_of R3 gg.1 k3.1 (k3.2.anti g12.1) ec3
          have RR : Rel C ow mu σ H3 S3 := R3.less gg.1 R.sub R.paH R.gro.1
          have m1 : (sset S3 i (.w z1)).rho.length = S3.rho.length := List.length_set ..
          have m2 : (sset (sset S3 i (.w z1)) j (.w z2)).rho.length = S3.rho.length := (List.length_set ..).trans m1
          have hL := R3.len
          have Q1 := RR.put (i := i) (v := v1) (x := z1) (by omega) ck1
          have Q2 := Q1.put (i := j) (v := v2) (x := z2) (by rw [List.length_set]; omega) ck2
          have Q3 := Q2.put (i := l) (v := v3) (x := z3) (by rw [List.length_set, List.length_set]; omega) ck3
          exact q3 _ _ _ H3 (PresS.of (Grow.refl _ _) pp) Q3
end
end Vf

set_option Elab.async false
set_option linter.all false
set_option maxRecDepth 100000
set_option maxHeartbeats 1000000
/-! Vf14: a caught exception that is kept in a name behind the try: it is seen on the abstract heap from then on. -/
namespace Vf
open PySem PySem.Spec PyProof.Rows L2

/-- an exception object, wherever it came from -/
def ExcT (cls : Value) (d : Option Addr) (a : Addr) : HO := .ext fun h => ∃ (oe : Obj) (vs : Array Value), h.get? a = some oe ∧ Zc cls d oe ∧ oe.data = .fields vs
theorem excT_ok {P : Program} {w : World} {H : Hp} {h : Heap} {a : Addr} {cls : Value} {d : Option Addr} {oe : Obj} {vs : Array Value} (e : h.get? a = some oe) (z : Zc cls d oe) (hd : oe.data = .fields vs) : ObjOk P w H h a (ExcT cls d a) :=
  ⟨⟨oe, vs, e, z, hd⟩, ⟨oe, e⟩, fun _ _ ⟨o, v, q, r⟩ k => ⟨o, v, k o q, r⟩⟩
section
variable {X : Cx} {ps : List (Addr × Obj)} {σ : L2.St} {H : Hp} {s : Shared}
/-- an object of ours that lies there, seen from now on -/
theorem seen {a : Addr} {o : HO} {oe : Obj} {vs : Array Value} (I : Inv X ps σ H s) (n0 : X.s_0.heap.get? a = none) (ha : s.heap.get? a = some oe) (hd : oe.data = .fields vs) (na : H a = none) (nl : a ≠ X.env.locals) (np : ∀ p ∈ X.pn ++ ps, p.1 ≠ a)
    (ok : ObjOk X.prog X.w (upd H a o) s.heap a o) : Inv X ps σ (upd H a o) s where
  ok := I.ok
  os := I.os
  bare := I.bare
  base := by
    have g := I.base
    refine ⟨g.keep, g.slot, ?_, g.there, ?_, ?_, ?_⟩
    · intro b u q n hx
      rw [upd_ne (show b ≠ a from fun z => by rw [z, n0] at q; cases q)]
      exact g.free b u q n hx
    · intro b xs q
      have q' := g.tups b xs q
      rw [upd_ne (ne_of_none q' na)]; exact q'
    · intro b u v q
      have q' := g.frzs b u v q
      rw [upd_ne (ne_of_none q' na)]; exact q'
    · intro b qs q
      obtain ⟨m, q'⟩ := g.tbls b qs q
      exact ⟨m, by rw [upd_ne (ne_of_none q' na)]; exact q'⟩
  loc := I.loc
  cell := I.cell
  free := by rw [upd_ne (Ne.symm nl)]; exact I.free
  freeC := fun y c e => by
    obtain ⟨v, u, hu, hv⟩ := I.cell y c e
    rw [upd_ne (show c ≠ a from fun z => by rw [z, ha] at hu; cases hu; rw [hd] at hv; cases hv)]
    exact I.freeC y c e
  pin := fun p hp => by
    obtain ⟨p1, p2, p3⟩ := I.pin p hp
    exact ⟨p1, by rw [upd_ne (np p hp)]; exact p2, p3⟩
  hok := fun b u e => by
    by_cases hb : b = a
    · subst hb; rw [upd_same] at e; cases e; exact ok
    · rw [upd_ne hb] at e
      exact (I.hok b u e).stay (fun _ _ _ q => q) (fun c q => by rw [upd_ne (ne_of_none q na)]; exact q) fun c xs q => by rw [upd_ne (ne_of_none q na)]; exact q
  len := I.len
end
/-- an except clause's wish where its suite runs to its end: the exception is seen behind it -/
def wKeep (K : PySem.W.Frag) (c : Value) (l i : Nat) (ts : Addr → Value → Option Addr → TS) (Wout : WX) (D : Ends) : WX := fun cls d σ H =>
  ∃ b, PySem.W.exmOne K cls c = some b ∧ (b = false → Wout cls d σ H) ∧
    (b = true → σ.length = l → ∀ a, H a = none → ts a cls d { nx := fun τ G => D.nx (τ.set i none) (upd G a (ExcT cls d a)), rt := fun _ _ => False, bk := fun _ _ => False, ct := fun _ _ => False } (σ.set i (some (.ref a))) H)
section
variable {X : Cx} {x n : Str} {c : Value} {i : Nat} {body su : List Stmt} {s1 : Stmt} {q1 q2 q3 : Pos} {tb : WX → TS} {ts : Addr → Value → Option Addr → TS} {Wo : WX}
theorem ps_try_keep (hstk : X.stack = X.env :: X.outer) (hfr : X.env.frame = some X.env.locals) (hex : X.ex = []) (nd : X.N.Nodup) (at_i : X.N[i]? = some n) (loc_n : X.env.kindOf n = some .local) (nm : Names X x c) (tk : L2.Takes X Wo)
    (hb : ∀ (W : WX) (pn : List (Addr × Obj)) (xe : Value → Shared → Prop), L2.Takes (X.tr pn xe) W → PassesOwn (model X.prog X.w) X.A X.env xe → PSs (X.tr pn xe) body (tb W))
    (hsu : ∀ (a : Addr) (oe : Obj) (cls : Value) (d : Option Addr) (pn : List (Addr × Obj)), Zc cls d oe → (∃ vs, oe.data = .fields vs) → PSs (X.suite a ((a, oe) :: pn)) (s1 :: su) (ts a cls d)) :
    PS X (.Try body [.ExceptHandler (some (.Name x q1)) (some n) (s1 :: su) q2] [] [] q3) (fun D σ H => tb (wKeep X.K c X.N.length i ts Wo D) D σ H) := by
  refine ⟨fun ps s σ H D I0 want => ?_⟩
  have okX := I0.ok
  have frms : X.A.frames = some (X.env :: X.outer) := by rw [← hstk]; exact okX.frames
  refine wpAny_Try_except (wpAny_mono ((hb (wKeep X.K c X.N.length i ts Wo D) (X.pn ++ ps) _ (fun u z xx => ?_) PassesOwn.looking).run [] s σ H D (I0.toTry _) want) (fun fl z hz => ?_) fun _ _ he => he)
  · obtain ⟨a, B, sI, ps1, τ, G, cls, d, rfl, J1, nb, up, sky, na, hos, hag, b, hm, hno, hyes⟩ := xx
    have J : Inv X ps τ G sI := J1.ofTry okX
    rw [show (X.tr (X.pn ++ ps) _).stack = X.env :: X.outer from hstk] at sky
    show wpAny (model X.prog X.w) X.A (noteFrame (.ref a) X.env) _ _ _
    refine Sky.land Zc.steady frms hfr sky fun h1 f1 u1 => ?_
    have K1 : Inv X ps τ G { z with heap := h1 } := J.landed nb f1.1 (up.trans u1) hos hag
    obtain ⟨o1, v1, g1, z1, d1⟩ := f1.there
    -- a lies in none of the frames
    have apart : ∀ {h : Heap} {o : Obj} {vs : Array Value}, h.FunFrames B (X.env :: X.outer) → h.get? a = some o → o.data = .fields vs → a ∉ frs (X.env :: X.outer) := fun ff e dd hin => by
      obtain ⟨_, o', e', bad⟩ := ff.mem hin
      rw [e] at e'
      cases e'
      exact bad _ dd
    have noFr := apart f1.2.2.1 g1 d1
    have noL : a ≠ X.env.locals := fun e => noFr (List.mem_filterMap.mpr ⟨X.env, List.mem_cons_self, by rw [hfr, e]⟩)
    have noF : a ∉ X.fs := fun hin => by
      obtain ⟨e, he, eq⟩ := List.mem_filterMap.mp hin
      exact noFr (List.mem_filterMap.mpr ⟨e, List.mem_cons_of_mem _ he, eq⟩)
    -- a is new since the def was entered
    have newI : sI.heap.get? a = none := by
      cases e : sI.heap.get? a with
      | none => rfl
      | some o =>
        have e2 := nb a o e (by rw [show (X.tr (X.pn ++ ps) _).stack = X.env :: X.outer from hstk]; exact noFr)
        rw [f1.2.1] at e2
        cases e2
    have new0 : X.s_0.heap.get? a = none := by
      cases e : X.s_0.heap.get? a with
      | none => rfl
      | some o =>
        obtain ⟨o', e'⟩ := J.base.there a o e (by rw [hex]; exact List.not_mem_nil)
        rw [newI] at e'
        cases e'
    have noPin : ∀ p ∈ X.pn ++ ps, p.1 ≠ a := fun p hp e => by
      have q := (J.pin p hp).1
      rw [e, newI] at q
      cases q
    have S1 := K1.suite g1 d1 na noL noF
    refine wpAny_handleBy_cons (codeAny_handlers_test ?_) (fun q => nomatch q)
    have lookT : PySem.W.Looks (model X.prog X.w) h1 (typeOf (.ref a)) cls := fun A Q E t k q => wpAny_typeOf_ref (k _ _ g1) (by rw [z1.1]; exact q)
    have lookM := PySem.W.exm_one (M := model X.prog X.w) K1.kIn lookT hm
    have named : ∀ {Q E : Value → Shared → Prop}, Q c { z with heap := h1 } → wpAny (model X.prog X.w) (X.A.mark (some (.ref a))) (eval (.Name x q1) X.env) Q E { z with heap := h1 } := fun q => by
      obtain ⟨hg, hdbg, hm | ⟨hm, hv, hnn⟩⟩ := nm
      · exact ld_glob (X := X.suite a ((a, o1) :: (X.pn ++ ps))) S1 hg hm q hdbg
      · exact ld_blt (X := X.suite a ((a, o1) :: (X.pn ++ ps))) S1 hg hm hv q hnn hdbg
    refine named (lookM.here ?_)
    cases b with
    | false =>
      show wpAny _ X.A (handleBy (.ref a) X.env []) _ _ _
      refine wpAny_handleBy_nil ?_
      obtain ⟨_, _, _, o2, v2, T, oT, t2, g2, _, d2, r2, _⟩ := id f1
      unfold PySem.passOn
      refine wpAny_bind (wpAny_field g2 d2 r2 ?_)
      rw [if_neg (show ¬ ((Value.ref T == Value.none) = true) by simp)]
      have onward : wpAny (model X.prog X.w) X.A (setFlight (.ref a) X.env.frame) (fun _ t => wpAny (model X.prog X.w) X.A (throw (.ref a) : Sem Flow) (SP X ps D) X.xe t) X.xe { z with heap := h1 } := by
        rw [hfr]
        refine HandSPX.setFlight_upZ f1 fun h2 held u2 => wpAny_throw (tk _ _ ⟨a, B, sI, ps, τ, G, cls, d, rfl, J, nb, (up.trans u1).trans u2, .inr (.inr (by rw [hstk]; exact held)), na, hos, hag, hno rfl⟩)
      first
        | exact wpAny_bind (wpAny_pure (wpAny_bind onward))
        | exact wpAny_bind onward
    | true =>
      refine codeAny_handlers_suite_as (HandSPX.lands_againZ f1 fun h2 f2 u2 => ?_)
      have K2 : Inv X ps τ G { z with heap := h2 } := J.landed nb f2.1 ((up.trans u1).trans u2) hos hag
      obtain ⟨o2, v2, g2, z2, d2⟩ := f2.there
      have S2 := K2.suite g2 d2 na noL noF
      refine store_ok (X := X.suite a ((a, o2) :: (X.pn ++ ps))) (v := .ref a) S2 nd at_i (.inl loc_n) rfl (fun t S3 => ?_) (.inr loc_n)
      refine wpAny_mono ((hsu a o2 cls d (X.pn ++ ps) z2 ⟨_, d2⟩).run [] t _ G _ S3 (hyes rfl J.len a na)) (fun fl t2 hsp => ?_) fun _ _ no => no.elim
      cases fl with
      | next =>
        obtain ⟨τ2, G2, S4, q4⟩ := hsp
        refine gone_ok (X := X.suite a ((a, o2) :: (X.pn ++ ps))) S4 nd at_i loc_n fun t3 S5 => ?_
        obtain ⟨p1, p2, _⟩ := S5.pin (a, o2) (by simp)
        exact ⟨_, _, seen (S5.unsuite okX) new0 p1 d2 p2 noL noPin (excT_ok p1 z2 d2), q4⟩
      | brk => obtain ⟨_, _, _, no⟩ := hsp; exact no.elim
      | cont => obtain ⟨_, _, _, no⟩ := hsp; exact no.elim
      | ret u => obtain ⟨_, _, _, _, _, no⟩ := hsp; exact no.elim
  · cases fl with
    | next => obtain ⟨τ, G, J, q⟩ := hz; exact wpAny_execs_nil ⟨τ, G, J.ofTry okX, q⟩
    | brk => obtain ⟨τ, G, J, q⟩ := hz; exact ⟨τ, G, J.ofTry okX, q⟩
    | cont => obtain ⟨τ, G, J, q⟩ := hz; exact ⟨τ, G, J.ofTry okX, q⟩
    | ret u => obtain ⟨v, τ, G, J, r, q⟩ := hz; exact ⟨v, τ, G, J.ofTry okX, r, q⟩
end
end Vf

set_option Elab.async false
set_option linter.all false
set_option maxRecDepth 100000
set_option maxHeartbeats 1000000
/-! Vf15: isinstance of an exception that is held. -/
namespace Vf
open PySem PySem.Spec PyProof.Rows L2

/-- isinstance(e, c), e an exception on the abstract heap -/
def rIsX (K : PySem.W.Frag) : List V → Hp → VK → Prop := fun xs H Q => ∃ (a D : Addr) (φ : Heap → Prop) (c : V) (cv : Value) (b : Bool), xs = [.ref a, c] ∧ H a = some (.ext φ) ∧
  (∀ h, φ h → ∃ (oe : Obj) (vs : Array Value), h.get? a = some oe ∧ Zc (.ref D) none oe ∧ oe.data = .fields vs) ∧ ExcC K D ∧ (∀ u, RelV c u → u = cv) ∧ PySem.W.kitOne K (.ref D) cv = some b ∧ Q (.bl b) H
theorem call_isX {X : Cx} : CallR X (.builtin "isinstance") (rIsX X.K) := by
  rintro pins s σ H xs us Q I r ⟨a, D, φ, c, cv, b, rfl, ha, hφ, C, one, e, q⟩
  obtain ⟨u1, u2, rfl, r1, r2⟩ : ∃ u1 u2, us = [u1, u2] ∧ RelV (.ref a) u1 ∧ RelV c u2 := by
    cases r with
    | cons p r' => cases r' with
      | cons p' r'' => cases r''; exact ⟨_, _, rfl, p, p'⟩
  cases r1
  rw [one _ r2]
  obtain ⟨oe, vs, g, z, dv⟩ := hφ _ (I.hok a _ ha).1
  have at_a : PySem.W.InstAt s.heap a oe D none := by
    cases oe
    obtain ⟨z1, z2⟩ := z
    cases z1
    cases z2
    cases dv
    exact ⟨g, rfl, rfl, trivial⟩
  refine PySem.W.kia_one (PySem.W.handS_kitx_exc C.hg C.hk C.hs C.hd C.ha C.hn C.ht C.hm) I.kIn at_a e (fun z => nomatch z) fun tk => ?_
  exact ⟨.bl b, H, I.kept (t' := tk) fun _ _ z => z, rfl, q⟩
/-- which class is within which, as isinstance tells -/
def KitOf (K : PySem.W.Frag) (cls : Nat → Addr) (sub : Nat → Nat → Option Bool) : Prop := ∀ c c2 b, sub c c2 = some b → ExcC K (cls c) ∧ PySem.W.kitOne K (.ref (cls c)) (.ref (cls c2)) = some b
def gIsX (sub : Nat → Nat → Option Bool) (c2 : Nat) : Sx → W → Option W := fun _ w => match w with
  | .exc c none => (sub c c2).map fun b => .d (.bool b)
  | _ => none
section
variable {C : Cn} {Wx : WX} {X : Cx} {e : Expr} {me : ME} {x cn : Str} {p q pos : Pos}
theorem je_isX {sub : Nat → Nat → Option Bool} {c2 : Nat} (hx : Hx C X) (kit : KitOf C.K C.cls sub) (he : JE C Wx X e me) (gC : X.mg cn = some (.ref (C.cls c2))) (hg : Gl X "isinstance") (hm : X.mg "isinstance" = none) (gl : Gl X cn := by rfl) (hdb : (cn == ("__debug__" : Str)) = false := by decide) (hs : starEach (e :: [.Name cn q]) X.env = (false, eval e X.env) :: starEach [.Name cn q] X.env := by rfl) (hpl : (backTo pos (starEach [.Name cn q] X.env)).any (·.1) = false := by rfl) :
    JE C Wx X (.Call (.Name "isinstance" p) [e, .Name cn q] [] pos) (mUn (gIsX sub c2) me) where
  pe := (pe_callB (call_isX (X := X)) hg hm (by decide +kernel) (pa_cons he.pe (pa_cons (pe_glob (v := .ref (C.cls c2)) gl gC rfl hdb) pa_nil) hs) (by decide) (by decide) hs hpl).weak fun σ H Q ⟨ow, mu, S, R, h⟩ => by
    refine ⟨ow, mu, S, R, Post.bind R.sub h fun w S1 v1 H1 ow1 e1 g1 p1 R1 k1 h1 => ?_⟩
    obtain ⟨z, e3, h3⟩ := Post.of h1
    unfold gIsX at e3
    split at e3
    · rename_i c
      cases hb : sub c c2 with
      | none => rw [hb] at e3; cases e3
      | some b =>
        rw [hb] at e3
        cases e3
        obtain ⟨ec, ek⟩ := kit _ _ _ hb
        obtain ⟨a, rfl, φ, d, a1, a2, rfl⟩ := k1.1
        rw [hx.hK]
        exact ⟨a, _, φ, .ref (C.cls c2), .ref (C.cls c2), b, rfl, hid_sub _ _ a1, a2, ec, fun u ru => by cases ru; rfl, ek, h3.now R1 ⟨.bl _, WNew.d⟩⟩
    · cases e3
  shp := shp_un he.shp
end
end Vf

set_option Elab.async false
set_option linter.all false
set_option maxRecDepth 100000
set_option maxHeartbeats 1000000
/-! Vf16: a def that calls what it got within a try and tells of what was caught. -/
namespace Vf
open PySem PySem.Spec PyProof.Rows L2

/-- what such a def makes of the call: "" where it ends, the word of the class where it raises -/
def TTw (C : Cb) (wd : Nat → Option Str) : (XK → Hp → VK → Prop) → Hp → VK → Prop := fun tl H Q =>
  ∀ Qn : VK, (∀ v H', (∃ ow : List Addr, MuOk C ow [] H' none ∧ ∀ H'' ow'', Grow H' ow ow'' → Pres [] H' H'' → MuOk C ow'' [] H'' none → Q (.str ("" : Str)) H'') → Qn v H') →
  tl (fun cls d H' => ∃ (ow : List Addr) (c : Nat) (w : Str), MuOk C ow [] H' none ∧ cls = .ref (C.cls c) ∧ d = none ∧ wd c = some w ∧ ∀ H'' ow'', Grow H' ow ow'' → Pres [] H' H'' → MuOk C ow'' [] H'' none → Q (.str w) H'') H Qn
/-- a state of which one slot is known -/
def st1 (n : Nat) (w : W) : Sx := ⟨none :: some (.w w) :: List.replicate (n - 2) none, none⟩
theorem st1_len {n : Nat} {w : W} (h : 2 ≤ n) : (st1 n w).rho.length = n := by
  show (none :: some (Cell.w w) :: List.replicate (n - 2) none).length = n
  simp; omega
theorem st1_get {n i : Nat} {w : W} {c : Cell} (h : (st1 n w).rho[i]? = some (some c)) : i = 1 ∧ c = .w w := by
  replace h : (none :: some (Cell.w w) :: List.replicate (n - 2) none)[i]? = some (some c) := h
  match i, h with
  | 0, h => simp at h
  | 1, h => simp at h; exact ⟨rfl, h.symm⟩
  | i + 2, h => simp [List.getElem?_replicate] at h
theorem rel_st1 {C : Cb} {ow : List Addr} {H : Hp} {σ : L2.St} {n : Nat} {w : W} {v : V} (m : MuOk C ow [] H none) (hl : σ.length = n) (hn : 2 ≤ n) (h1 : σ[1]? = some (some v)) (k : COk ⟨C, H, [], ow⟩ ow [] H v (.w w)) : Rel ⟨C, H, [], ow⟩ ow [] σ H (st1 n w) where
  sub := m.sub
  trk := m.trk
  tab := m.tab
  cells := fun i c e => by
    obtain ⟨rfl, rfl⟩ := st1_get e
    exact ⟨v, h1, k⟩
  inj := fun i j ds es u a b _ _ => by
    obtain ⟨_, z⟩ := st1_get a
    obtain ⟨q, _⟩ := st1_get b
    obtain ⟨p, _⟩ := st1_get a
    rw [p, q]
  len := by rw [hl, st1_len hn]
  base := Pres.refl H
  fresh := fun b h => absurd h List.not_mem_nil
  gro := Grow.refl H ow
  m0 := fun b h => absurd h List.not_mem_nil
  paH := m.paH
  pen := fun π e => nomatch e
theorem muOk_of {C : Cb} {H0 : Hp} {ow0 ow mu : List Addr} {σ : L2.St} {H : Hp} {S : Sx} (R : Rel ⟨C, H0, [], ow0⟩ ow mu σ H S) : MuOk C ow [] H none := ⟨fun b h => absurd h List.not_mem_nil, R.trk, R.tab, fun b h => absurd h List.not_mem_nil, R.paH, fun π e => nomatch e⟩
theorem word_gives {X : Cx} {C : Cb} {Ng : List Str} {x a q y n te : Str} {sg : Scope} {g : Addr} {cdg : Value} {rest : List Stmt} {mrest : MS} {wd : Nat → Option Str} {k : Nat} {p1 p2 p3 p4 p5 p6 p7 p8 p9 p10 p11 p12 : Pos}
    (nd : Ng.Nodup) (n1 : Ng[1]? = some y) (n2 : Ng[2]? = some n) (h0 : ∀ f : Addr, (L2.start Ng [V.ref f])[0]? = some (some (V.ref f))) (ky : sg.names.lookup y = some .local) (kn : sg.names.lookup n = some .local) (kt : sg.names.lookup te = some .globalImplicit)
    (gt : X.mg te = some (.ref (C.cls 0))) (exm : ∀ c w, wd c = some w → PySem.W.exmOne X.K (.ref (C.cls c)) (.ref (C.cls 0)) = some true)
    {kr : Nat} (hr : Room (kr + 1) X.A) (hK : X.K = C.K) (hrest : ∀ (H0 : Hp) (ow0 : List Addr) (s : Shared) (H : Hp), Hx ⟨C, H0, [], ow0⟩ (cxOf C8.CX0 X.prog X.w X.K X.mg X.base Ng x sg g cdg X.A X.stack s H C8.E0).nox → Room kr (cxOf C8.CX0 X.prog X.w X.K X.mg X.base Ng x sg g cdg X.A X.stack s H C8.E0).nox.A → JB ⟨C, H0, [], ow0⟩ NoX (cxOf C8.CX0 X.prog X.w X.K X.mg X.base Ng x sg g cdg X.A X.stack s H C8.E0).nox rest mrest)
    (r0 : ∃ S', mrest (st1 Ng.length (.d .none)) = .rt (.d (.str "")) S') (r1 : ∀ c w, wd c = some w → ∃ S', mrest (st1 Ng.length (.exc c none)) = .rt (.d (.str w)) S')
    (dt : (te == ("__debug__" : Str)) = false := by decide) (dn : (n == ("__debug__" : Str)) = false := by decide) (dc : (n == ("__classdict__" : Str)) = false := by decide) :
    LamX.GivesTo X Ng x sg g cdg (.Assign [.Name y p1] (.Constant .none k p2) p3 :: .Try [.Expr (.Call (.Name a p4) [] [] p5) p6] [.ExceptHandler (some (.Name te p7)) (some n) [.Assign [.Name y p8] (.Name n p9) p10] p11] [] [] p12 :: rest) a q (TTw C wd) := by
  intro f c' s H Q tl act hc h
  have hlen : 3 ≤ Ng.length := by
    obtain ⟨z, _⟩ := List.getElem?_eq_some_iff.mp n2
    omega
  have t1 := ps_set (X := (cxOf C8.CX0 X.prog X.w X.K X.mg X.base Ng x sg g cdg X.A X.stack s H C8.E0).nox) (i := 1) (pos := p3) (pos' := p1) nd n1 (.inl ky) (pe_non (j := k) (pos := p2)) rfl (.inr ky)
  have t2 := ps_try_keep (X := (cxOf C8.CX0 X.prog X.w X.K X.mg X.base Ng x sg g cdg X.A X.stack s H C8.E0).nox) (x := te) (n := n) (c := .ref (C.cls 0)) (i := 2) (body := [.Expr (.Call (.Name a p4) [] [] p5) p6]) (su := []) (s1 := .Assign [.Name y p8] (.Name n p9) p10) (q1 := p7) (q2 := p11) (q3 := p12) (Wo := fun _ _ _ _ => False)
    (tb := fun W D σ H => ∃ Ech : XK, (∀ cls d σ' H', Ech cls d H' → W cls d σ' H') ∧ σ[0]? = some (some (V.ref f)) ∧ H c' = some (LamX.CodeO c' q) ∧ tl Ech H fun _ H1 => D.nx σ H1)
    rfl rfl rfl nd n2 kn ⟨kt, dt, .inl gt⟩ LamX.takes0 (fun W pn xe tk _ => ⟨fun pins s' σ H' D I want => ?_⟩) (fun a0 oe cls d pn _ _ => pss_one (ps_set (i := 1) nd n1 (.inl ky) (pe_var (i := 2) n2 (.inl kn) dn dc) rfl (.inr ky)))
  · refine ⟨_, pss_cons t1 (pss_cons t2 (t := _) (u := fun D σ H' => ∃ (H0 : Hp) (ow0 : List Addr), tS ⟨C, H0, [], ow0⟩ NoX mrest D σ H') ⟨fun pins s' σ H' D I ⟨H0, ow0, z⟩ => (hrest H0 ow0 s H ⟨hK, rfl, nd⟩ (hr.deeper _)).run pins s' σ H' D I z⟩), ?_⟩
    -- the reading
    have hs0 : (L2.start Ng [V.ref f]).length = Ng.length := by simp [L2.start]; omega
    refine ⟨fun cls d H' => ∃ (ow : List Addr) (c : Nat) (w : Str), MuOk C ow [] H' none ∧ cls = .ref (C.cls c) ∧ d = none ∧ wd c = some w ∧ ∀ H'' ow'', Grow H' ow ow'' → Pres [] H' H'' → MuOk C ow'' [] H'' none → Q (.str w) H'', ?_, ?_, hc, ?_⟩
    · rintro cls d σ' H' ⟨ow, c, w, m, rfl, rfl, ew, fin⟩
      refine ⟨true, exm c w ew, (fun z => nomatch z), fun _ hl a0 ha0 => ?_⟩
      replace hl : σ'.length = Ng.length := hl
      have na : a0 ∉ ow := fun z => by obtain ⟨o, e, _⟩ := m.trk a0 z; rw [ha0] at e; cases e
      refine ⟨.ref a0, List.getElem?_set_self (by omega), ?_⟩
      have su : Sub H' (upd H' a0 (ExcT (.ref (C.cls c)) none a0)) := sub_upd ha0
      have m2 : MuOk C ow [] (upd H' a0 (ExcT (.ref (C.cls c)) none a0)) none := ⟨fun b h => absurd h List.not_mem_nil, fun b hb => by obtain ⟨o, e, t⟩ := m.trk b hb; exact ⟨o, su _ _ e, t⟩, m.tab.ext su, fun b h => absurd h List.not_mem_nil, m.paH, fun π e => nomatch e⟩
      obtain ⟨S', er⟩ := r1 c w ew
      refine ⟨_, ow, ow, [], st1 Ng.length (.exc c none), rel_st1 (v := .ref a0) m2 (by simp [hl]) (by omega) ?_ ⟨a0, rfl, _, none, hid_at na upd_same, fun h z => z, rfl⟩, ?_⟩
      · rw [List.getElem?_set_ne (by decide), List.getElem?_set_self (by simp; omega)]
      · rw [er]
        intro v ow2 mu2 σ2 H2 pr R2 k2 _
        cases (Rp.str_inv k2 : v = _)
        refine fin H2 ow2 ⟨pr.g.1, fun b hb => (pr.g.2 b hb).imp id fun z => ?_⟩ ((Pres.of su).trans pr.p) (muOk_of R2)
        by_cases e : b = a0
        · subst e; exact z.no (by intro _ q; cases q) upd_same
        · unfold Nil at z ⊢; rw [upd_ne e] at z; exact z
    · rw [List.getElem?_set_ne (by decide)]; exact h0 f
    · refine h _ ?_
      rintro v0 H' ⟨ow, m, fin⟩
      obtain ⟨S', er⟩ := r0
      refine ⟨_, ow, ow, [], st1 Ng.length (.d .none), rel_st1 (v := .non) m (by rw [List.length_set]; exact hs0) (by omega) (List.getElem?_set_self (by omega)) .non, ?_⟩
      rw [er]
      intro v ow2 mu2 σ2 H2 pr R2 k2 _
      cases (Rp.str_inv k2 : v = _)
      exact fin H2 ow2 pr.g pr.p (muOk_of R2)
  · obtain ⟨Ech, hW, w1, w2, w3⟩ := want
    exact (pss_one (ps_expr (pos := p6) (act W pn xe Ech p4 p5 tk hW) rfl)).run pins s' σ H' D I ⟨w1, w2, w3⟩
end Vf

set_option Elab.async false
set_option linter.all false
set_option maxRecDepth 100000
set_option maxHeartbeats 1000000
/-! Vf17: x(lambda: body), x a def as in Vf16. -/
namespace Vf
open PySem PySem.Spec PyProof.Rows L2

def mWord (wd : Nat → Option Str) (mb : ME) : ME := fun S => match mb S with
  | .ok _ S1 => .ok (.d (.str "")) S1
  | .ex c none S1 => (match wd c with
    | some w => .ok (.d (.str w)) S1
    | none => .bad)
  | _ => .bad
section
variable {C : Cn} {Wx : WX} {X : Cx} {ow mu : List Addr} {σ : L2.St} {H H1 : Hp} {S : Sx}
theorem penR_of (R : Rel C ow mu σ H S) {ow' : List Addr} (g : Grow H ow ow') (p : Pres [] H H1) : PenR C ow' mu H1 S.pen := fun z e => by
  obtain ⟨q1, l, q2, q3⟩ := R.pen z e
  exact ⟨q1, l, p _ _ List.not_mem_nil (by intro _ z; cases z) q2, hid_grow g (fun b hb => absurd hb List.not_mem_nil) p _ _ q3⟩
theorem Rel.by0 (R : Rel C ow mu σ H S) {ow' : List Addr} (g : Grow H ow ow') (p : Pres [] H H1) (t : Trk ow' H1) (tb : LamX.Tabs C.T H1) : Rel C ow' mu σ H1 S :=
  R.call (mu' := []) g p (fun b hb => absurd hb List.not_mem_nil) t tb (penR_of R g p)
theorem Rel.extN (R : Rel C ow mu σ H S) (e : LamX.ExtN H H1) (t : LamX.Tabs C.T H1) : Rel C ow mu σ H1 S :=
  R.by0 (Grow.refl H ow) (fun b o _ n h => e b o h n) (fun b hb => by obtain ⟨o, h, n⟩ := R.trk b hb; exact ⟨o, e b o h n, n⟩) t
theorem muOk_rel (R : Rel C ow mu σ H S) : MuOk C ow [] H none := ⟨fun b h => absurd h List.not_mem_nil, R.trk, R.tab, fun b h => absurd h List.not_mem_nil, R.paH, fun π e => nomatch e⟩
end
/-! where an exception leaves, the slots are as they were -/
def ShpX {α : Type} (m : Sx → RE α) : Prop := ∀ S c l S', m S = .ex c l S' → Shp S S'
theorem shx_bind {α β : Type} {ma : Sx → RE α} {f : α → Sx → RE β} (ha : ShpM ma) (xa : ShpX ma) (xf : ∀ a, ShpX (f a)) : ShpX (fun S => (ma S).bind (f)) := fun S c l S' e => by
  replace e : (ma S).bind f = .ex c l S' := e
  cases e1 : ma S with
  | ok x S1 => rw [e1] at e; exact (ha _ _ _ e1).trans (xf x S1 c l S' e)
  | ex c1 l1 S1 => rw [e1] at e; cases e; exact xa _ _ _ _ e1
  | bad => rw [e1] at e; cases e
theorem shx_of {α : Type} {o : Sx → Option α} : ShpX (fun S => RE.of (o S) S) := fun S c l S' e => by
  replace e : RE.of (o S) S = .ex c l S' := e
  cases e1 : o S with
  | some a => rw [e1] at e; cases e
  | none => rw [e1] at e; cases e
theorem shm_var {i : Nat} : ShpM (mVar i) := shp_of (o := fun S => vget S i)
theorem shm_c {d : PyData} : ShpM (mC d) := shp_ok
theorem shm_nil : ShpM mNil := shp_ok
theorem shm_cons {me : ME} {ms : MA} (he : ShpM me) (hs : ShpM ms) : ShpM (mCons me ms) := shp_bind he fun _ => shp_bind hs fun _ => shp_ok
theorem shm_call {n : Nat} {F : PF} {ms : MA} (hs : ShpM ms) : ShpM (mCall n F ms) := shp_bind hs fun _ => shp_call
theorem shx_var {i : Nat} : ShpX (mVar i) := shx_of (o := fun S => vget S i)
theorem shx_c {d : PyData} : ShpX (mC d) := fun _ _ _ _ e => nomatch e
theorem shx_nil : ShpX mNil := fun _ _ _ _ e => nomatch e
theorem shx_cons {me : ME} {ms : MA} (he : ShpM me) (xe : ShpX me) (hs : ShpM ms) (xs : ShpX ms) : ShpX (mCons me ms) := shx_bind he xe fun _ => shx_bind hs xs fun _ => fun _ _ _ _ e => nomatch e
theorem shx_bin {g : Sx → W → W → Option W} {ma mb : ME} (ha : ShpM ma) (xa : ShpX ma) (hb : ShpM mb) (xb : ShpX mb) : ShpX (mBin g ma mb) := shx_bind ha xa fun _ => shx_bind hb xb fun _ => shx_of
theorem shx_call {n : Nat} {F : PF} {ms : MA} (hs : ShpM ms) (xs : ShpX ms) : ShpX (mCall n F ms) := shx_bind hs xs fun ws => fun S c l S' e => by
  replace e : callF n F S ws = .ex c l S' := e
  unfold callF at e
  split at e
  · cases e
  · split at e
    · split at e
      · split at e
        · cases e
        · rename_i π hp
          split at e
          · cases e
          · cases e; exact ⟨rfl, by rw [hp]; rfl⟩
          · cases e
      · split at e
        · cases e
        · cases e; exact Shp.refl S
        · cases e
    · cases e
section
variable {C : Cn} {Wx : WX} {X : Cx} {ow mu : List Addr} {σ : L2.St} {H H1 : Hp} {S : Sx}
/-- where a def may make lambdas: its code's table -/
structure LamOk (X : Cx) (T : List (Addr × Str)) (c P : Addr) : Prop where
  tb : LamX.TabB X.base X.mg c P
  code : X.env.code = .ref c
  mem : (P, X.env.qual ++ "<lambda>") ∈ T
  one : ∀ p ∈ T, p.1 = P → p.2 = X.env.qual ++ "<lambda>"
/-- .. as the program tells it -/
structure LamD (base : Heap) (mg : Str → Option Value) (T : List (Addr × Str)) (x : Str) (fd : FuncData) (c P : Addr) : Prop where
  tb : LamX.TabB base mg c P
  code : fd.code = .ref c
  mem : (P, x ++ (".<locals>." : Str) ++ "<lambda>") ∈ T
  one : ∀ p ∈ T, p.1 = P → p.2 = x ++ (".<locals>." : Str) ++ "<lambda>"
theorem je_word {x a : Str} (hx : Hx C X) {st : Stmt} {g c P : Addr} {fd : FuncData} {k : Nat} {Ng : List Str} {wd : Nat → Option Str} {params : Arguments} {body : Expr} {scope : Scope} {mb : ME} {p lpos pos : Pos} (lo : LamOk X C.T c P) (D : DefOk X.K X.mg x st [a] g fd) (Sg : FnScope Ng [a] (defScope st)) (hNg : Ng[0]? = some a) (hva : Vis (defScope st) a)
    (hG : ∀ cdv, LamX.GivesTo X Ng x (defScope st) g cdv (defBody st) a (X.env.qual ++ "<lambda>") (TTw C wd)) (hr : Room (k + 2) X.A)
    (hbody : ∀ (A : Around) (outer : List Env) (s : Shared) (H : Hp) (E : XK) (f c' : Addr), Room k (LamX.lamCx X A outer s H E scope f c').A → Hx C (LamX.lamCx X A outer s H E scope f c') → Takes (LamX.lamCx X A outer s H E scope f c') (fun cl d _ H => E cl d H) → JE C (fun cl d _ H => E cl d H) (LamX.lamCx X A outer s H E scope f c') body mb)
    (hs : ShpM mb) (hsx : ShpX mb)
    (L : LamX.LamS X.env.scope scope) (hdef : defaultsOf params X.env = ([], []) := by rfl)
    (hbind : ∀ (q : Str) (cl : List (Str × Addr)) (pm cv ctv : Value), bindArgs (PySem.W.kla_fn "<lambda>" q params body scope cl pm cv ctv) ⟨[], []⟩ = pure [] := by intros; rfl)
    (hg : Gl X x := by rfl) (hdb : (x == ("__debug__" : Str)) = false := by decide) (hd : (a == ("__debug__" : Str)) = false := by decide) (hcd : (a == ("__classdict__" : Str)) = false := by decide) :
    JE C Wx X (.Call (.Name x p) [.Lambda params body scope lpos] [] pos) (mWord wd mb) where
  pe := by
    obtain ⟨oc, od, kV, doc, pm, an, cdv, ct, osl, rfl, lk, hcg⟩ := D.F.ex
    refine (LamX.pe_lamcall (T := C.T) (TT := TTw C wd) (t := fun E => tM C (fun cl d _ H => E cl d H) mb) hg D.g D.k lk hcg D.b Sg hNg hva (hG cdv) lo.tb lo.code lo.mem lo.one hr L hdef hbind (fun A outer s H E f c' hr' => (hbody A outer s H E f c' hr' ⟨hx.hK, rfl, hx.nd⟩ (takes_of rfl rfl rfl rfl)).pe) hdb hd hcd).weak ?_
    rintro σ H Q ⟨ow, mu, S, R, h⟩
    refine ⟨R.tab, fun H1 eN T1 Qn hQn => ?_⟩
    have R1 : Rel C ow mu σ H1 S := R.extN eN T1
    have p01 : Pres mu H H1 := fun b o _ n h => eN b o h n
    have g0 : ∀ {ow'}, Grow H1 ow ow' → Grow H ow ow' := fun g => (Grow.refl H ow).trans p01 R.sub g
    refine ⟨ow, mu, S, R1, ?_⟩
    unfold mWord at h
    cases em : mb S with
    | bad => rw [em] at h; exact h.elim
    | ok w S' =>
      rw [em] at h
      intro v H' ow' g p R' _
      refine hQn v H' ⟨ow', muOk_rel R', fun H'' ow'' g2 p2 m2 => ?_⟩
      have p2' : Pres mu H' H'' := p2.mono fun b hb => absurd hb List.not_mem_nil
      exact h (.str "") H'' ow'' ((g0 g).trans (p01.trans p) R.sub g2) ((p01.trans p).trans p2') (R'.by0 g2 p2 m2.trk m2.tab) ⟨.str _, WNew.d⟩
    | ex c l S' =>
      rw [em] at h
      cases l with
      | some _ => exact h.elim
      | none =>
        dsimp only at h
        cases ew : wd c with
        | none => rw [ew] at h; exact h.elim
        | some w =>
          rw [ew] at h
          intro H' ow' cls d g p R' xo
          obtain ⟨rfl, rfl⟩ := xo
          refine ⟨ow', c, w, muOk_rel R', rfl, rfl, ew, fun H'' ow'' g2 p2 m2 => ?_⟩
          have p2' : Pres mu H' H'' := p2.mono fun b hb => absurd hb List.not_mem_nil
          exact h (.str w) H'' ow'' ((g0 g).trans (p01.trans p) R.sub g2) ((p01.trans p).trans p2') (R'.by0 g2 p2 m2.trk m2.tab) ⟨.str _, WNew.d⟩
  shp := fun S w S' e => by
    unfold mWord at e
    cases em : mb S with
    | bad => rw [em] at e; cases e
    | ok w' S1 => rw [em] at e; cases e; exact hs _ _ _ em
    | ex c l S1 =>
      rw [em] at e
      cases l with
      | some _ => cases e
      | none =>
        dsimp only at e
        split at e
        · cases e; exact hsx _ _ _ _ em
        · cases e
end
end Vf

set_option Elab.async false
set_option linter.all false
set_option maxRecDepth 100000
set_option maxHeartbeats 1000000
/-! Vf18: methods of lists with one argument: index and count of truths. -/
namespace Vf
open PySem PySem.Spec PyProof.Rows L2

def mLm (g : Sx → W → W → Option W) (mo me : ME) : ME := fun S => (mo S).bind fun a S1 => match lview S1 a with
  | none => .bad
  | some _ => (me S1).bind fun b S2 => RE.of (g S2 a b) S2
theorem shp_lm {g : Sx → W → W → Option W} {mo me : ME} (ha : ShpM mo) (hb : ShpM me) : ShpM (mLm g mo me) := shp_bind ha fun a => fun S w S' e => by
  replace e : (match lview S a with
    | none => (.bad : RE W)
    | some _ => (me S).bind fun b S2 => RE.of (g S2 a b) S2) = .ok w S' := e
  cases el : lview S a with
  | none => rw [el] at e; cases e
  | some _ => rw [el] at e; exact shp_bind hb (fun _ => shp_of) S w S' e
section
variable {C : Cn} {Wx : WX} {X : Cx} {o e : Expr} {mo me : ME} {name : Str} {id : String} {apos cpos : Pos} {r : V → List V → Hp → VK → Prop} {g : Sx → W → W → Option W}
theorem je_lm (slot : Slot "list" name id) (hty : typeOf (.builtin id) = pure (.type "method_descriptor")) (hm : MtR X id r) (op : Opm C r g) (ho : JE C Wx X o mo) (he : JE C Wx X e me)
    (hbase : attributeBase o name X.env (eval o X.env) = eval o X.env := by rfl)
    (hfew : ((backTo cpos (starEach (e :: []) X.env)).all (fun x => !x.1) && (backToKw cpos (keywordEach [] X.env)).all (fun x => x.1.isSome) && decide ((e :: []).length + ([] : List Keyword).length + (if ([] : List Keyword).isEmpty then 0 else 1) < 30)) = true := by rfl)
    (hline : (apos.endLine == cpos.line) = true := by rfl) (hs : starEach (e :: []) X.env = (false, eval e X.env) :: starEach [] X.env := by rfl) (hplain : (backTo cpos (starEach [] X.env)).any (·.1) = false := by rfl) :
    JE C Wx X (.Call (.Attribute o name apos) [e] [] cpos) (mLm g mo me) where
  pe := (pe_bm PySem.F.plainAttrs_list slot hty hm ho.pe (pa_cons he.pe pa_nil hs) hbase hfew hline hs hplain).weak fun σ H Q ⟨ow, mu, S, R, h⟩ => by
    refine ⟨ow, mu, S, R, Post.bind R.sub h fun a S1 v1 H1 ow1 e1 g1 p1 R1 k1 h1 => ?_⟩
    cases el : lview S1 a with
    | none => rw [el] at h1; exact h1.elim
    | some ds =>
      rw [el] at h1
      obtain ⟨b, vs, rfl, hb, _⟩ := lview_ok R1 k1.1 el
      refine ⟨.inl ⟨rfl, vs, .inl (.inl hb)⟩, ow1, mu, S1, R1, Post.bind R1.sub h1 fun c S2 v2 H2 ow2 e2 g2 p2 R2 k2 h2 => ?_⟩
      obtain ⟨y, e3, h3⟩ := Post.of h2
      exact op ow2 mu σ H2 S2 _ a v2 c y Q R2 (k1.1.later R1.sub g2 p2 (he.shp _ _ _ e2)) k2.1 e3 (Res.of h3 R2)
  shp := shp_lm ho.shp he.shp
end
/-! truths -/
theorem boolsD_eq : ∀ {ds : List PyData} {bs : List Bool}, boolsD ds = some bs → ds = bs.map PyData.bool
  | [], bs, h => by cases h; rfl
  | d :: ds, bs, h => by
    cases d <;> try cases h
    rename_i b
    simp only [boolsD, Option.map_eq_some_iff] at h
    obtain ⟨cs, h1, rfl⟩ := h
    rw [boolsD_eq h1]; rfl
theorem vals_bl : ∀ {bs : List Bool} {us : List Value}, Vals (bs.map V.bl) us → us = bs.map Value.bool
  | [], us, h => by cases h; rfl
  | b :: bs, us, h => by
    cases h with
    | cons p q => rw [vals_bl q]; cases p; rfl
def rCountB : V → List V → Hp → VK → Prop := fun x xs H Q => ∃ (l : Addr) (bs : List Bool) (k : Bool), x = .ref l ∧ xs = [.bl k] ∧ H l = some (.lst (bs.map V.bl)) ∧ Q (.int (bs.count k : Nat)) H
theorem count_isB (k : Bool) : ∀ bs : List Bool, (bs.map Value.bool).countP (isBoolOf k) = bs.count k
  | [] => rfl
  | b :: bs => by
    rw [List.map_cons, List.countP_cons, count_isB k bs, List.count_cons]; rfl
theorem mt_countB {X : Cx} : MtR X "list.count" rCountB := by
  rintro pins s σ H x xs v us Q I rx rv ⟨l, bs, k, rfl, rfl, hH, q⟩
  cases rx
  obtain ⟨u, rfl, ru⟩ := rv.one
  cases ru
  obtain ⟨z, its, n, r, hl, e⟩ := I.lstM hH
  have ei := vals_bl r
  refine call_meets PySem.F.slot_list_count ⟨_, e, rfl⟩ PySem.F.entry_list_count (PySem.F.args_list_count_2 _ _) (SeqAt.list_countAt l its.toArray n none #[] (.bool k) (isBoolOf k)) ⟨e, fun y hy => ?_, ?_⟩
  · have hy' : y ∈ bs.map Value.bool := by rw [← ei]; simpa using hy
    obtain ⟨b, _, rfl⟩ := List.mem_map.mp hy'
    exact SeqAt.EqAt.bool_bool b k
  · rw [show its.toArray.toList = its from rfl, ei, count_isB]
    exact ⟨.int (bs.count k : Nat), H, I.tok _, ⟨_, rfl⟩, q⟩
def gCountB : Sx → W → W → Option W := fun S a b => match (lview S a).bind boolsD, wb b with
  | some bs, some k => some (.d (.int (bs.count k : Nat)))
  | _, _ => none
theorem o_countB {C : Cn} : Opm C rCountB gCountB := fun ow mu σ H S v1 w1 v2 w2 w Q R k1 k2 e q => by
  unfold gCountB at e
  split at e
  · rename_i bs k h1 h2
    cases e
    obtain ⟨ds, el, eb⟩ := Option.bind_eq_some_iff.mp h1
    obtain ⟨a, vs, rfl, ha, ra⟩ := lview_ok R k1 el
    rw [boolsD_eq eb] at ra
    refine ⟨a, bs, k, rfl, by rw [wb_ok k2 h2], by rw [← RpAll.bl_inv ra]; exact ha, q.flat R (.int _)⟩
  · cases e
def firstB (k : Bool) : List Bool → Nat → Option Nat
  | [], _ => none
  | b :: bs, i => if b = k then some i else firstB k bs (i + 1)
theorem firstB_ok (k : Bool) : ∀ (bs : List Bool) (i j : Nat), firstB k bs i = some j → ∃ m, j = i + m ∧ bs[m]? = some k ∧ ∀ n b, n < m → bs[n]? = some b → b ≠ k
  | [], _, _, h => nomatch h
  | b :: bs, i, j, h => by
    unfold firstB at h
    by_cases e : b = k
    · rw [if_pos e] at h; cases h; exact ⟨0, rfl, by rw [e]; rfl, fun n b hn => absurd hn (Nat.not_lt_zero _)⟩
    · rw [if_neg e] at h
      obtain ⟨m, rfl, h1, h2⟩ := firstB_ok k bs (i + 1) j h
      refine ⟨m + 1, by omega, by simpa using h1, fun n b' hn hb => ?_⟩
      cases n with
      | zero => simp at hb; subst hb; exact e
      | succ n => exact h2 n b' (by omega) (by simpa using hb)
def gIndexB : Sx → W → W → Option W := fun S a b => match (lview S a).bind boolsD, wb b with
  | some bs, some k => (firstB k bs 0).map fun j => .d (.int (j : Nat))
  | _, _ => none
theorem o_indexB {C : Cn} : Opm C (rIndex C.K) gIndexB := fun ow mu σ H S v1 w1 v2 w2 w Q R k1 k2 e q => by
  unfold gIndexB at e
  split at e
  · rename_i bs k h1 h2
    obtain ⟨j, ej, rfl⟩ := Option.map_eq_some_iff.mp e
    obtain ⟨m, rfl, f1, f2⟩ := firstB_ok k bs 0 j ej
    obtain ⟨ds, el, eb⟩ := Option.bind_eq_some_iff.mp h1
    obtain ⟨a, vs, rfl, ha, ra⟩ := lview_ok R k1 el
    rw [boolsD_eq eb] at ra
    have ev := RpAll.bl_inv ra
    subst ev
    refine ⟨a, _, .bl k, m, .bl k, rfl, by rw [wb_ok k2 h2], .inl (.inl ha), rfl, ?_, by rw [List.getElem?_map, f1]; rfl, by cases k <;> rfl, fun n z' hn hz => ?_, by have := q.flat R (.int ((0 + m : Nat) : Int)); rw [Nat.zero_add] at this; exact this⟩
    · rw [List.all_map]; exact List.all_eq_true.mpr fun b _ => rfl
    · rw [List.getElem?_map] at hz
      obtain ⟨b, hb, rfl⟩ := Option.map_eq_some_iff.mp hz
      have := f2 n b hn hb
      cases b <;> cases k <;> first | rfl | exact (this rfl).elim
  · cases e
end Vf

set_option Elab.async false
set_option linter.all false
set_option maxRecDepth 100000
set_option maxHeartbeats 1000000
/-! Vf19: how many different numbers a tuple has. -/
namespace Vf
open PySem PySem.Spec PyProof.Rows L2

/-- the last ones of equal numbers -/
def dd : List Int → List Int
  | [] => []
  | x :: xs => if x ∈ xs then dd xs else x :: dd xs
theorem dd_mem : ∀ {xs : List Int} {k : Int}, k ∈ dd xs ↔ k ∈ xs
  | [], k => Iff.rfl
  | x :: xs, k => by
    unfold dd
    by_cases e : x ∈ xs
    · rw [if_pos e, dd_mem, List.mem_cons]
      exact ⟨.inr, fun h => h.elim (fun z => z ▸ e) id⟩
    · rw [if_neg e, List.mem_cons, List.mem_cons, dd_mem]
theorem dd_nodup : ∀ xs : List Int, (dd xs).Nodup
  | [] => List.nodup_nil
  | x :: xs => by
    unfold dd
    by_cases e : x ∈ xs
    · rw [if_pos e]; exact dd_nodup xs
    · rw [if_neg e]; exact List.nodup_cons.mpr ⟨fun z => e (dd_mem.mp z), dd_nodup xs⟩
theorem ints_of : ∀ {ns : List Int} {us : List Value}, Vals (ns.map V.int) us → PyProof.Rows.IntsAre us ns
  | [], us, h => by cases h; exact .nil
  | n :: ns, us, h => by
    cases h with
    | cons p q => obtain ⟨t, rfl⟩ := p; exact .cons n t (ints_of q)
def tLenSetT (K : PySem.W.Frag) (ta : TE) : TE := fun σ H Q => ta σ H fun x H1 => ∃ (l : Addr) (ns : List Int), x = .ref l ∧ SqT K H1 l (ns.map V.int) ∧ ns.length ≤ 4000 ∧ Q (.int ((dd ns).length : Nat)) H1
theorem pe_lenSetT {X : Cx} {a : Expr} {ta : TE} {p1 p2 q1 q2 : Pos} (ca : X.calm = true) (gl : Gl X "len") (ml : X.mg "len" = none) (gs : Gl X "set") (ms : X.mg "set" = none) (ha : PE X a ta)
    (na : starEach [a] X.env = (false, eval a X.env) :: starEach [] X.env := by rfl) : PE X (.Call (.Name "len" p1) [.Call (.Name "set" p2) [a] [] q1] [] q2) (tLenSetT X.K ta) := by
  constructor
  intro pins s σ H Q I h
  refine Call_ (ld_blt I gl ml PySem.boot_len (PyProof.Rows.callWith_builtin1 (PyProof.Rows.args_cons ?_ rfl) rfl rfl))
  refine Call_ (ld_blt I gs ms PyProof.Rows.boot_set (PyProof.Rows.callWith_type1 (PyProof.Rows.args_cons ?_ na) na rfl))
  refine thn (ha.run pins s σ H _ I h) ?_
  rintro v s1 ⟨x, H1, I1, r1, l, ns, rfl, hq, hl, q⟩
  cases r1
  refine PyProof.Rows.args_nil ?_
  obtain ⟨its, r, it, _⟩ := I1.tuple hq
  refine call_set_tupI ns (I1.ok.hd ca) it (by simpa using ints_of r) (by unfold scanBound; omega) ?_
  intro h' tk c hS hc kp
  obtain ⟨o, es, ep, t, ho, hx, hd, _, nd, mem, hb, fit, sz, _⟩ := hS
  have I2 : Inv X pins σ H1 { s1 with heap := h', toks := tk } := I1.kept kp
  have same : (es.toList.map keyOf).length = (dd ns).length := List.Perm.length_eq ((List.perm_ext_iff_of_nodup nd (dd_nodup ns)).mpr fun k => by rw [← mem k, dd_mem]; exact decide_eq_true_iff)
  rw [List.length_map, Array.length_toList] at same
  rw [← same] at q
  exact PyProof.Rows.args_nil (call_len_set ho hx hd fit (by rw [sz]; omega) ⟨.int (es.size : Nat), H1, I2.tok _, ⟨_, rfl⟩, q⟩)
def gLenSet : Sx → W → Option W := fun _ w => match w with
  | .d (.tuple ds) => (intsD ds).bind fun ns => if ns.length ≤ 4000 then some (.d (.int ((dd ns).length : Nat))) else none
  | _ => none
section
variable {C : Cn} {Wx : WX} {X : Cx} {a : Expr} {me : ME} {p1 p2 q1 q2 : Pos}
theorem je_lenSet (hx : Hx C X) (he : JE C Wx X a me) (gl : Gl X "len") (ml : X.mg "len" = none) (gs : Gl X "set") (ms : X.mg "set" = none)
    (na : starEach [a] X.env = (false, eval a X.env) :: starEach [] X.env := by rfl) : JE C Wx X (.Call (.Name "len" p1) [.Call (.Name "set" p2) [a] [] q1] [] q2) (mUn gLenSet me) where
  pe := (pe_lenSetT hx.calm gl ml gs ms he.pe na).weak fun σ H Q ⟨ow, mu, S, R, h⟩ => by
    refine ⟨ow, mu, S, R, Post.bind R.sub h fun w S1 v1 H1 ow1 e1 g1 p1 R1 k1 h1 => ?_⟩
    obtain ⟨z, e3, h3⟩ := Post.of h1
    unfold gLenSet at e3
    split at e3
    · rename_i ds
      obtain ⟨ns, e4, e5⟩ := Option.bind_eq_some_iff.mp e3
      split at e5
      · rename_i hl
        cases e5
        obtain ⟨l, xs, rfl, ht, ra⟩ := Rp.tup_inv k1.1
        have ev := intsD_inv e4 ra
        subst ev
        rw [hx.hK]
        exact ⟨l, ns, rfl, sqT_sub hid_sub ht, hl, h3.now R1 ⟨.int _, WNew.d⟩⟩
      · cases e5
    · cases e3
  shp := shp_un he.shp
end
end Vf

set_option Elab.async false
set_option linter.all false
set_option maxRecDepth 100000
set_option maxHeartbeats 2000000
/-! Vf20: comprehensions with two fors. -/
namespace Vf
open PySem PySem.Spec PyProof.Rows L2

theorem bindT_keep {t : Tg} {T T' : Sx} {d : PyData} {j : Nat} (e : bindT t T d = some T') (hj : j ∉ t.vs) : T'.rho[j]? = T.rho[j]? := by
  cases t with
  | one a =>
    replace e : (if T.rho.length ≤ a then none else some (sset T a (.w (.d d)))) = some T' := e
    split at e
    · cases e
    · cases e; exact List.getElem?_set_ne (fun z => hj (by simp [Tg.vs, z]))
  | two a b =>
    cases d with
    | tuple xs =>
      match xs, e with
      | [x1, x2], e =>
        replace e : (if T.rho.length ≤ a ∨ T.rho.length ≤ b then none else some (sset (sset T a (.w (.d x1))) b (.w (.d x2)))) = some T' := e
        split at e
        · cases e
        · cases e
          show ((T.rho.set a _).set b _)[j]? = _
          rw [List.getElem?_set_ne (fun z => hj (by simp [Tg.vs, z])), List.getElem?_set_ne (fun z => hj (by simp [Tg.vs, z]))]
      | [], e => cases e
      | [_], e => cases e
      | _ :: _ :: _ :: _, e => cases e
    | _ => cases e
theorem bindT_pen {t : Tg} {T T' : Sx} {d : PyData} (e : bindT t T d = some T') : T'.pen = T.pen := by
  cases t with
  | one a =>
    replace e : (if T.rho.length ≤ a then none else some (sset T a (.w (.d d)))) = some T' := e
    split at e
    · cases e
    · cases e; rfl
  | two a b =>
    cases d with
    | tuple xs =>
      match xs, e with
      | [x1, x2], e =>
        replace e : (if T.rho.length ≤ a ∨ T.rho.length ≤ b then none else some (sset (sset T a (.w (.d x1))) b (.w (.d x2)))) = some T' := e
        split at e
        · cases e
        · cases e; rfl
      | [], e => cases e
      | [_], e => cases e
      | _ :: _ :: _ :: _, e => cases e
    | _ => cases e
theorem wipeS_keep {S : Sx} {j : Nat} : ∀ {us : List Nat}, j ∉ us → (wipeS S us).rho[j]? = S.rho[j]?
  | [], _ => rfl
  | u :: us, h => by
    show ((us.foldr (fun v rho => rho.set v none) S.rho).set u none)[j]? = S.rho[j]?
    rw [List.getElem?_set_ne (fun z => h (by simp [z]))]
    exact wipeS_keep (us := us) fun z => h (List.mem_cons_of_mem _ z)
/-- a block seen from outside, where more than mu was changed -/
theorem Rel.backW {C : Cn} {ow mu : List Addr} {σ σ2 : L2.St} {H H' : Hp} {S S2 : Sx} {vs : List Nat} (r : Rel C ow mu σ H S) (r2 : Rel C ow mu σ2 H' S2) (p : Pres ow H H') (hn : noOwn S vs = true) (hσ : ∀ i, i ∉ vs → σ2[i]? = σ[i]?) (hrho : ∀ i, i ∉ vs → S2.rho[i]? = S.rho[i]?) :
    Rel C ow mu σ H' { S with pen := S2.pen } where
  sub := r.sub
  trk := r2.trk
  tab := r2.tab
  len := r.len
  paH := r.paH
  base := r2.base
  fresh := r.fresh
  gro := r.gro
  m0 := r.m0
  inj := r.inj
  pen := r2.pen
  cells := fun i c e => by
    by_cases hi : i ∈ vs
    · obtain ⟨v, h1, h2⟩ := r.cells i c e
      refine ⟨v, h1, ?_⟩
      have hs : Sub (hid ow H) (hid ow H') := hid_pres (fun _ z => z) p
      cases c with
      | lst ds =>
        have z := List.all_eq_true.mp hn i hi
        rw [show S.rho[i]? = some (some (.lst ds)) from e] at z
        cases z
      | w x => cases x with
        | d x => exact Rp.mono hs h2
        | exc c l => obtain ⟨a, z, q⟩ := h2; exact ⟨a, z, excV_mono hs q⟩
        | xv y => exact xv_mono hs h2
        | _ => exact h2
    · obtain ⟨v, h1, h2⟩ := r2.cells i c (by rw [hrho i hi]; exact e)
      exact ⟨v, by rw [← hσ i hi]; exact h1, h2⟩
/-- the second for's turns, then the rest -/
def compS2 (t t1 : Tg) (vs vs1 : List Nat) (mt : MT) (mi1 : MI) (mt1 : MT) (me : ME) : List PyData → List PyData → Sx → RE (List PyData)
  | [], acc, S => .ok acc S
  | d :: ds, acc, S => match bindT t (wipeS S vs) d with
    | none => .bad
    | some S1 => (mt S1).bindB fun b S2 => match b with
      | false => compS2 t t1 vs vs1 mt mi1 mt1 me ds acc { S with pen := S2.pen }
      | true => (mi1 S2).bindB fun es S3 => if noOwn S3 vs1 && decide (acc.length + es.length ≤ 16777215) then (compS t1 vs1 mt1 me es acc S3).bindB fun acc' S4 => compS2 t t1 vs vs1 mt mi1 mt1 me ds acc' { S with pen := S4.pen } else .bad
def mComp2 (t t1 : Tg) (vs vs1 : List Nat) (mi : MI) (mt : MT) (mi1 : MI) (mt1 : MT) (me : ME) : ME := fun S => (mi S).bind fun ds S1 => if noOwn S1 vs then fin (compS2 t t1 vs vs1 mt mi1 mt1 me ds [] S1) else .bad
section
variable {C : Cn} {Wx : WX} {X : Cx} {tg iter tg1 iter1 elt : Expr} {ifs ifs1 : List Expr} {scope : Scope} {own : List (Str × Nat)} {vs1 : List Nat} {mi mi1 : MI} {mt mt1 : MT} {me : ME} {t t1 : Tg} {pos : Pos}
theorem lc2_of (hi : JI C Wx X tg iter mi) (hv : ∀ i ∈ t.vs, i ∈ own.map (·.2)) (hv1 : ∀ i ∈ t1.vs, i ∈ vs1) (hsub : ∀ i ∈ vs1, i ∈ own.map (·.2))
    (sht : ShpM mt) (shi1 : ShpM mi1) (sht1 : ShpM mt1) (she : ShpM me) :
    ∀ σ H Q, tM C Wx (mComp2 t t1 (own.map (·.2)) vs1 mi mt mi1 mt1 me) σ H Q → tLc2 (tM C Wx mi) (tgR C.K t) (tM C NoX mt) (tM C NoX mi1) (tgR C.K t1) (tM C NoX mt1) (tM C NoX me) (own.map (·.2)) vs1 σ H Q := by
  intro σ H Q ⟨ow, mu, S, R, q⟩
  generalize hvs : own.map (·.2) = vs at *
  refine ⟨ow, mu, S, R, Post.bind0 (Grow.refl H ow) (Pres.refl H) R.sub q fun ds S1 J H1 ow1 e1 g1 p1 R1 wk h1 => fun D hD => ?_⟩
  by_cases hno : noOwn S1 vs = true
  case neg => rw [if_neg hno] at h1; exact h1.elim
  rw [if_pos hno] at h1
  have nD1 : D ∉ ow1 := new_out R1 hD
  have nDm : D ∉ mu := fun z => nD1 (R1.sub D z)
  have gD : Grow H1 ow1 (D :: ow1) := grow_cons hD
  have memD : D ∈ D :: ow1 := List.mem_cons_self
  have hD0 : Nil C.H0 D := by
    show noTbl (C.H0 D) = none
    cases e : noTbl (C.H0 D) with
    | none => rfl
    | some o =>
      obtain ⟨e1, t⟩ := noTbl_some e
      have := R1.base D o (fun z => nD1 (R1.gro.1 D (R1.m0 D z))) t e1
      rw [hD] at this; cases this
  have R1' : Rel C (D :: ow1) mu σ (upd H1 D (.lst [])) S1 := R1.grow (sub_upd hD) gD fun b hb => by
    rcases List.mem_cons.mp hb with e | e
    · exact ⟨_, by rw [e, upd_same], by intro _ z; cases z⟩
    · exact trk_upd R1 (by intro _ z; cases z) b e
  have keepD : ∀ {A B : Hp} {o : HO}, Pres mu H1 A → Pres mu H1 (upd A D o) := fun {A B o} p => fun b u nb t hb => by rw [upd_ne (fun e => by rw [e, hD] at hb; cases hb)]; exact p b u nb t hb
  refine ⟨fun i m H' => m = ds.length - i ∧ i ≤ ds.length ∧ ∃ S' acc vacc, Rel C (D :: ow1) mu σ H' S' ∧ noOwn S' vs = true ∧ Pres mu H1 H' ∧ H' D = some (.lst vacc) ∧ RpAll C.K (hid (D :: ow1) H') vacc acc ∧
    Post C Wx ow mu σ H (fin (compS2 t t1 vs vs1 mt mi1 mt1 me (ds.drop i) acc S')) Q, ⟨_, rfl, Nat.zero_le _, S1, [], [], R1', hno, Pres.of (sub_upd hD), upd_same, .nil, h1⟩, ?_⟩
  rintro i m H' ⟨rfl, hi', S', acc, vacc, R', hno', p', hD', ra, h'⟩
  by_cases hlt : i < ds.length
  · right
    refine ⟨wk.go i H' hlt (p'.mono R.sub), fun H'' => ∃ S' acc vacc, Rel C (D :: ow1) mu σ H'' S' ∧ noOwn S' vs = true ∧ Pres mu H1 H'' ∧ H'' D = some (.lst vacc) ∧ RpAll C.K (hid (D :: ow1) H'') vacc acc ∧
      Post C Wx ow mu σ H (fin (compS2 t t1 vs vs1 mt mi1 mt1 me (ds.drop (i + 1)) acc S')) Q, fun H'' z => ⟨ds.length - (i + 1), by omega, rfl, hlt, z⟩, fun y H'' hy => ?_⟩
    obtain ⟨d, hd, sb, rp⟩ := wk.yld i H' y H'' hlt (p'.mono R.sub) hy
    have ed : ds.drop i = d :: ds.drop (i + 1) := by
      rw [List.drop_eq_getElem_cons hlt]
      rw [List.getElem?_eq_getElem hlt] at hd
      cases hd
      rfl
    rw [ed] at h'
    have R3 : Rel C (D :: ow1) mu σ H'' S' := R'.grow sb (Grow.refl _ _) fun b hb => by obtain ⟨o, z, t⟩ := R'.trk b hb; exact ⟨o, sb _ _ z, t⟩
    have rp' := rp (D :: ow1) gD R'.trk
    unfold compS2 at h'
    cases eb : bindT t (wipeS S' vs) d with
    | none => rw [eb] at h'; exact h'.elim
    | some S3 =>
      rw [eb] at h'
      dsimp only at h'
      refine bindT_ok (R3.wiped _) rp' eb fun σ3 R4 kσ lσ => ⟨wipe_eq (by rw [lσ, wipe_length]) fun j hj => ?_, (D :: ow1), mu, S3, R4, ?_⟩
      · rw [kσ j (fun z => hj (hv j z)), wipe_out hj]
      have hrho3 : ∀ j, j ∉ vs → S3.rho[j]? = S'.rho[j]? := fun j hj => by rw [bindT_keep eb fun z => hj (hv j z), wipeS_keep hj]
      have hσ3 : ∀ j, j ∉ vs → σ3[j]? = σ[j]? := fun j hj => by rw [kσ j (fun z => hj (hv j z)), wipe_out hj]
      cases er : mt S3 with
      | ex c l S5 => rw [er] at h'; exact h'.elim
      | bad => rw [er] at h'; exact h'.elim
      | ok b S4 =>
        rw [er] at h'
        dsimp only [RE.bindB] at h'
        intro bb H4 ow4 g4 p4 R5 kb
        cases (show bb = b from kb)
        have hrho4 : ∀ j, j ∉ vs → S4.rho[j]? = S'.rho[j]? := fun j hj => by rw [(sht _ _ _ er).r]; exact hrho3 j hj
        have pre4 : Pres mu H' H4 := (Pres.of sb).trans p4
        have hD4 : H4 D = some (.lst vacc) := pre4 D _ nDm (by intro _ z; cases z) hD'
        have ra4 : RpAll C.K (hid (D :: ow1) H4) vacc acc := ra.mono (hid_pres R'.sub pre4)
        cases b with
        | false =>
          have R5' : Rel C (D :: ow1) mu σ3 H4 S4 := R5.less g4.1 R4.sub R4.paH R4.gro.1
          exact iteF ⟨{ S' with pen := S4.pen }, acc, vacc, R'.back R5' pre4 hno' hσ3 hrho4, hno', p'.trans pre4, hD4, ra4, h'⟩
        | true =>
          refine iteT ⟨ow4, mu, S4, R5, ?_⟩
          cases ei : mi1 S4 with
          | ex c l S6 => rw [ei] at h'; exact h'.elim
          | bad => rw [ei] at h'; exact h'.elim
          | ok es S5 =>
            rw [ei] at h'
            dsimp only [RE.bindB] at h'
            intro J1 H5 ow5 g5 p5 R6 wk1
            have pre5 : Pres mu H' H5 := pre4.trans p5
            have s5 : ∀ b ∈ D :: ow1, b ∈ ow5 := fun b hb => g5.1 b (g4.1 b hb)
            have hD5 : H5 D = some (.lst vacc) := pre5 D _ nDm (by intro _ z; cases z) hD'
            have ra5 : RpAll C.K (hid (D :: ow1) H5) vacc acc := ra.mono (hid_pres R'.sub pre5)
            have hrho5 : ∀ j, j ∉ vs → S5.rho[j]? = S'.rho[j]? := fun j hj => by rw [(shi1 _ _ _ ei).r]; exact hrho4 j hj
            by_cases hc : (noOwn S5 vs1 && decide (acc.length + es.length ≤ 16777215)) = true
            case neg => rw [if_neg hc] at h'; exact h'.elim
            rw [if_pos hc] at h'
            obtain ⟨hno5, hlen⟩ := Bool.and_eq_true_iff.mp hc
            have hlen := of_decide_eq_true hlen
            -- the turns of the second for
            refine ⟨fun j k G => k = es.length - j ∧ j ≤ es.length ∧ ∃ T a va, Rel C ow5 mu σ3 G T ∧ noOwn T vs1 = true ∧ (∀ x, x ∉ vs → T.rho[x]? = S'.rho[x]?) ∧ Pres ow4 H5 G ∧ Pres (D :: ow1) H' G ∧ Pres mu H1 G ∧ G D = some (.lst va) ∧ RpAll C.K (hid (D :: ow1) G) va a ∧ a.length + (es.length - j) ≤ 16777215 ∧
              Post C Wx ow mu σ H (fin ((compS t1 vs1 mt1 me (es.drop j) a T).bindB fun acc' S4 => compS2 t t1 vs vs1 mt mi1 mt1 me (ds.drop (i + 1)) acc' { S' with pen := S4.pen })) Q, ⟨_, rfl, Nat.zero_le _, S5, acc, vacc, R6, hno5, hrho5, Pres.refl _, pre5.mono R'.sub, p'.trans pre5, hD5, ra5, by omega, h'⟩, ?_⟩
            rintro j k G ⟨rfl, hj, T, a, va, RT, hnoT, hrhoT, pG5, pG', pG1, hDG, raG, haG, hG⟩
            by_cases hjl : j < es.length
            · right
              refine ⟨wk1.go j G hjl pG5, fun G' => ∃ T a va, Rel C ow5 mu σ3 G' T ∧ noOwn T vs1 = true ∧ (∀ x, x ∉ vs → T.rho[x]? = S'.rho[x]?) ∧ Pres ow4 H5 G' ∧ Pres (D :: ow1) H' G' ∧ Pres mu H1 G' ∧ G' D = some (.lst va) ∧ RpAll C.K (hid (D :: ow1) G') va a ∧ a.length + (es.length - (j + 1)) ≤ 16777215 ∧
                Post C Wx ow mu σ H (fin ((compS t1 vs1 mt1 me (es.drop (j + 1)) a T).bindB fun acc' S4 => compS2 t t1 vs vs1 mt mi1 mt1 me (ds.drop (i + 1)) acc' { S' with pen := S4.pen })) Q, fun G' z => ⟨es.length - (j + 1), by omega, rfl, hjl, z⟩, fun y1 G' hy1 => ?_⟩
              obtain ⟨d1, hd1, sb1, rp1⟩ := wk1.yld j G y1 G' hjl pG5 hy1
              have ed1 : es.drop j = d1 :: es.drop (j + 1) := by
                rw [List.drop_eq_getElem_cons hjl]
                rw [List.getElem?_eq_getElem hjl] at hd1
                cases hd1
                rfl
              rw [ed1] at hG
              have RT' : Rel C ow5 mu σ3 G' T := RT.grow sb1 (Grow.refl _ _) fun b hb => by obtain ⟨o, z, t⟩ := RT.trk b hb; exact ⟨o, sb1 _ _ z, t⟩
              have rp1' := rp1 ow5 (Grow.refl _ _) RT.trk
              unfold compS at hG
              cases eb1 : bindT t1 (wipeS T vs1) d1 with
              | none => rw [eb1] at hG; exact hG.elim
              | some T1 =>
                rw [eb1] at hG
                dsimp only at hG
                refine bindT_ok (RT'.wiped _) rp1' eb1 fun σ4 R7 kσ1 lσ1 => ⟨wipe_eq (by rw [lσ1, wipe_length]) fun x hx => ?_, ow5, mu, T1, R7, ?_⟩
                · rw [kσ1 x (fun z => hx (hv1 x z)), wipe_out hx]
                have hrhoT1 : ∀ x, x ∉ vs1 → T1.rho[x]? = T.rho[x]? := fun x hx => by rw [bindT_keep eb1 fun z => hx (hv1 x z), wipeS_keep hx]
                have hσ4 : ∀ x, x ∉ vs1 → σ4[x]? = σ3[x]? := fun x hx => by rw [kσ1 x (fun z => hx (hv1 x z)), wipe_out hx]
                cases er1 : mt1 T1 with
                | ex c l T2 => rw [er1] at hG; exact hG.elim
                | bad => rw [er1] at hG; exact hG.elim
                | ok b1 T2 =>
                  rw [er1] at hG
                  dsimp only [RE.bindB] at hG
                  intro bb1 G2 ow6 g6 p6 R8 kb1
                  cases (show bb1 = b1 from kb1)
                  have hrhoT2 : ∀ x, x ∉ vs1 → T2.rho[x]? = T.rho[x]? := fun x hx => by rw [(sht1 _ _ _ er1).r]; exact hrhoT1 x hx
                  have q2 : Pres mu G G2 := (Pres.of sb1).trans p6
                  have hD2 : G2 D = some (.lst va) := q2 D _ nDm (by intro _ z; cases z) hDG
                  have ra2 : RpAll C.K (hid (D :: ow1) G2) va a := raG.mono (hid_pres R'.sub q2)
                  cases b1 with
                  | false =>
                    have R8' : Rel C ow5 mu σ4 G2 T2 := R8.less g6.1 R7.sub R7.paH R7.gro.1
                    exact iteF ⟨{ T with pen := T2.pen }, a, va, RT.back R8' q2 hnoT hσ4 hrhoT2, hnoT, hrhoT, pG5.trans (q2.mono R5.sub), pG'.trans (q2.mono R'.sub), pG1.trans q2, hD2, ra2, by omega, hG⟩
                  | true =>
                    refine iteT ⟨ow6, mu, T2, R8, ?_⟩
                    cases ee : me T2 with
                    | ex c l T3 => rw [ee] at hG; exact hG.elim
                    | bad => rw [ee] at hG; exact hG.elim
                    | ok w T3 =>
                      rw [ee] at hG
                      dsimp only [RE.bindB] at hG
                      cases ex : argD w with
                      | none => rw [ex] at hG; exact hG.elim
                      | some x =>
                        rw [ex] at hG
                        dsimp only at hG
                        intro z G3 ow7 g7 p7 R9 k9
                        have s7 : ∀ b ∈ ow5, b ∈ ow7 := fun b hb => g7.1 b (g6.1 b hb)
                        have R9' : Rel C ow5 mu σ4 G3 T3 := R9.less s7 R7.sub R7.paH R7.gro.1
                        have hrhoT3 : ∀ x, x ∉ vs1 → T3.rho[x]? = T.rho[x]? := fun x hx => by rw [(she _ _ _ ee).r]; exact hrhoT2 x hx
                        have q3 : Pres mu G G3 := q2.trans p7
                        have hD3 : G3 D = some (.lst va) := q3 D _ nDm (by intro _ z; cases z) hDG
                        have ra3 : RpAll C.K (hid (D :: ow1) G3) va a := raG.mono (hid_pres R'.sub q3)
                        have Rb := RT.back R9' q3 hnoT hσ4 hrhoT3
                        obtain ⟨Rc, eh⟩ := rel_upd (o := .lst (va ++ [z])) Rb (s5 D memD) nDm hD0 hD3
                        have rz : RpAll C.K (hid (D :: ow1) G3) [z] [x] := argDs_ok (ow := D :: ow1) (ow' := ow7) (wl := [w]) (fun b hb => s7 b (s5 b hb)) (.cons k9.1 (k9.2.anti fun b hb => g6.1 b (s5 b hb)) .nil) (by unfold argDs; rw [ex]; rfl)
                        have e2 : hid (D :: ow1) (upd G3 D (.lst (va ++ [z]))) = hid (D :: ow1) G3 := by
                          funext b
                          by_cases e : b ∈ D :: ow1
                          · rw [hid_in e, hid_in e]
                          · exact hid_eqAt (upd_ne (show b ≠ D from fun z => e (by rw [z]; exact memD)))
                        have hz := ra3.length
                        have memD4 : D ∈ ow4 := g4.1 D memD
                        have updP : ∀ {l : List Addr} {A : Hp}, D ∈ l → Pres l A G3 → Pres l A (upd G3 D (.lst (va ++ [z]))) := fun {l A} hm p => fun b u nb t hb => by rw [upd_ne (fun e => nb (by rw [e]; exact hm))]; exact p b u nb t hb
                        refine ⟨va, hD3, by rw [hz, sizeLine_eq]; omega, { T with pen := T3.pen }, a ++ [x], va ++ [z], Rc, hnoT, hrhoT, ?_, ?_, ?_, upd_same, by rw [e2]; exact ra3.append rz, by simp; omega, hG⟩
                        · exact updP memD4 (pG5.trans (q3.mono R5.sub))
                        · exact updP memD (pG'.trans (q3.mono R'.sub))
                        · exact keepD (B := G3) (pG1.trans q3)
            · left
              have ej : j = es.length := by omega
              subst ej
              rw [List.drop_length] at hG
              refine ⟨wk1.stop G pG5, ?_⟩
              have RT'' : Rel C (D :: ow1) mu σ3 G T := RT.less s5 R4.sub R4.paH R4.gro.1
              exact ⟨{ S' with pen := T.pen }, a, va, R'.backW RT'' pG' hno' hσ3 hrhoT, hno', pG1, hDG, raG, hG⟩
  · left
    have ei : i = ds.length := by omega
    subst ei
    rw [List.drop_length] at h'
    refine ⟨wk.stop H' (p'.mono R.sub), ?_⟩
    have gg : Grow H ow (D :: ow1) := g1.trans p1 R.sub gD
    have nDo : D ∉ ow := fun z => nD1 (g1.1 D z)
    exact (show Post C Wx ow mu σ H (RE.ok (W.new acc) S') Q from h') (.ref D) H' (D :: ow1) gg (p1.trans p') R' ⟨⟨D, vacc, rfl, memD, nDm, hD', ra⟩, fun _ _ p e => by cases e; exact nDo⟩
end
section
variable {t t1 : Tg} {vs vs1 : List Nat} {mt mt1 : MT} {mi1 : MI} {me : ME}
theorem wipeS_pen {S : Sx} {us : List Nat} : (wipeS S us).pen = S.pen := rfl
theorem compS_shp (sht : ShpM mt) (she : ShpM me) : ∀ (ds acc : List PyData) (S : Sx) (r : List PyData) (S' : Sx), compS t vs mt me ds acc S = .ok r S' → Shp S S'
  | [], acc, S, r, S', e => by cases e; exact Shp.refl S
  | d :: ds, acc, S, r, S', e => by
    unfold compS at e
    cases eb : bindT t (wipeS S vs) d with
    | none => rw [eb] at e; cases e
    | some S1 =>
      rw [eb] at e
      dsimp only at e
      have p1 : S1.pen = S.pen := (bindT_pen eb).trans wipeS_pen
      cases er : mt S1 with
      | ok b S2 =>
        rw [er] at e
        dsimp only [RE.bindB] at e
        have p2 := (sht _ _ _ er).p
        cases b with
        | false => have z := compS_shp sht she ds _ _ _ _ e; exact ⟨z.r, by rw [← p1, p2]; exact z.p⟩
        | true =>
          cases ee : me S2 with
          | ok w S3 =>
            rw [ee] at e
            dsimp only [RE.bindB] at e
            have p3 := (she _ _ _ ee).p
            cases ex : argD w with
            | none => rw [ex] at e; cases e
            | some x => rw [ex] at e; have z := compS_shp sht she ds _ _ _ _ e; exact ⟨z.r, by rw [← p1, p2, p3]; exact z.p⟩
          | ex c l S3 => rw [ee] at e; cases e
          | bad => rw [ee] at e; cases e
      | ex c l S2 => rw [er] at e; cases e
      | bad => rw [er] at e; cases e
theorem compS2_shp (sht : ShpM mt) (shi1 : ShpM mi1) (sht1 : ShpM mt1) (she : ShpM me) : ∀ (ds acc : List PyData) (S : Sx) (r : List PyData) (S' : Sx), compS2 t t1 vs vs1 mt mi1 mt1 me ds acc S = .ok r S' → Shp S S'
  | [], acc, S, r, S', e => by cases e; exact Shp.refl S
  | d :: ds, acc, S, r, S', e => by
    unfold compS2 at e
    cases eb : bindT t (wipeS S vs) d with
    | none => rw [eb] at e; cases e
    | some S1 =>
      rw [eb] at e
      dsimp only at e
      have p1 : S1.pen = S.pen := (bindT_pen eb).trans wipeS_pen
      cases er : mt S1 with
      | ok b S2 =>
        rw [er] at e
        dsimp only [RE.bindB] at e
        have p2 := (sht _ _ _ er).p
        cases b with
        | false => have z := compS2_shp sht shi1 sht1 she ds _ _ _ _ e; exact ⟨z.r, by rw [← p1, p2]; exact z.p⟩
        | true =>
          cases ei : mi1 S2 with
          | ok es S3 =>
            rw [ei] at e
            dsimp only [RE.bindB] at e
            have p3 := (shi1 _ _ _ ei).p
            split at e
            · cases ec : compS t1 vs1 mt1 me es acc S3 with
              | ok acc' S4 =>
                rw [ec] at e
                dsimp only [RE.bindB] at e
                have p4 := (compS_shp sht1 she _ _ _ _ _ ec).p
                have z := compS2_shp sht shi1 sht1 she ds _ _ _ _ e
                exact ⟨z.r, by rw [← p1, p2, p3, p4]; exact z.p⟩
              | ex c l S4 => rw [ec] at e; cases e
              | bad => rw [ec] at e; cases e
            · cases e
          | ex c l S3 => rw [ei] at e; cases e
          | bad => rw [ei] at e; cases e
      | ex c l S2 => rw [er] at e; cases e
      | bad => rw [er] at e; cases e
end
section
variable {C : Cn} {Wx : WX} {X : Cx} {tg iter tg1 iter1 elt : Expr} {ifs ifs1 : List Expr} {scope : Scope} {own : List (Str × Nat)} {vs1 : List Nat} {mi mi1 : MI} {mt mt1 : MT} {me : ME} {t t1 : Tg} {pos : Pos}
theorem je_lc2 (hx : Hx C X) (hi : JI C Wx X tg iter mi) (ok : BlkOk X.N X.env.scope scope own) (hv : ∀ i ∈ t.vs, i ∈ own.map (·.2)) (hv1 : ∀ i ∈ t1.vs, i ∈ vs1) (hsub : ∀ i ∈ vs1, i ∈ own.map (·.2))
    (hg : ∀ (s : Shared) (H : Hp) (D : Addr) (cl : List (Str × Addr)) (fp : List Addr), PG (X.blk s H scope (compEnvC scope cl D X.env) fp) tg (tgR C.K t)) (ht : ∀ (s : Shared) (H : Hp) (D : Addr) (cl : List (Str × Addr)) (fp : List Addr), JC C (X.blk s H scope (compEnvC scope cl D X.env) fp) ifs mt)
    (hi1 : ∀ (s : Shared) (H : Hp) (D : Addr) (cl : List (Str × Addr)) (fp : List Addr), JI C NoX (X.blk s H scope (compEnvC scope cl D X.env) fp) tg1 iter1 mi1)
    (hg1 : ∀ (s : Shared) (H : Hp) (D : Addr) (cl : List (Str × Addr)) (fp : List Addr), PG (X.blk s H scope (compEnvC scope cl D X.env) fp) tg1 (tgR C.K t1)) (ht1 : ∀ (s : Shared) (H : Hp) (D : Addr) (cl : List (Str × Addr)) (fp : List Addr), JC C (X.blk s H scope (compEnvC scope cl D X.env) fp) ifs1 mt1)
    (he : ∀ (s : Shared) (H : Hp) (D : Addr) (cl : List (Str × Addr)) (fp : List Addr), JE C NoX (X.blk s H scope (compEnvC scope cl D X.env) fp) elt me) (s0 : Shared) (hs : ∀ x, foldedSetIterable iter X.env x = pure x := by intro _; rfl) (hs1 : ∀ env x, foldedSetIterable iter1 env x = pure x := by intro _ _; rfl) :
    JE C Wx X (.ListComp elt [⟨tg, iter, ifs, 0⟩, ⟨tg1, iter1, ifs1, 0⟩] scope pos) (mComp2 t t1 (own.map (·.2)) vs1 mi mt mi1 mt1 me) where
  pe := (pe_lc2 (vs1 := vs1) hx.calm hx.nd hi.pi ok hsub hg (fun s H D cl fp => (ht s H D cl fp).pts) (fun s H D cl fp => (hi1 s H D cl fp).pi) hg1 (fun s H D cl fp => (ht1 s H D cl fp).pts) (fun s H D cl fp => (he s H D cl fp).pe) hs hs1).weak
    (lc2_of hi hv hv1 hsub (ht s0 (fun _ => none) 0 [] []).shp (hi1 s0 (fun _ => none) 0 [] []).shp (ht1 s0 (fun _ => none) 0 [] []).shp (he s0 (fun _ => none) 0 [] []).shp)
  shp := by
    refine shp_bind hi.shp fun ds => fun S w S' e => ?_
    replace e : (if noOwn S (own.map (·.2)) = true then fin (compS2 t t1 (own.map (·.2)) vs1 mt mi1 mt1 me ds [] S) else .bad) = .ok w S' := e
    split at e
    · cases ec : compS2 t t1 (own.map (·.2)) vs1 mt mi1 mt1 me ds [] S with
      | ok acc S2 => rw [ec] at e; cases e; exact compS2_shp (ht s0 (fun _ => none) 0 [] []).shp (hi1 s0 (fun _ => none) 0 [] []).shp (ht1 s0 (fun _ => none) 0 [] []).shp (he s0 (fun _ => none) 0 [] []).shp _ _ _ _ _ ec
      | ex c l S2 => rw [ec] at e; cases e
      | bad => rw [ec] at e; cases e
    · cases e
end
end Vf

set_option Elab.async false
set_option linter.all false
set_option maxRecDepth 100000
set_option maxHeartbeats 1000000
/-! Vf21: the end of a law whose def is told where no guard is open; ts: the code objects that make lambdas, each with its table. -/
namespace Vf
open PySem PySem.Spec PyProof.Rows L2

/-- what a law's call must leave -/
abbrev LawEnd (s1 : Shared) : Except Value Flow → Shared → Prop := fun r t => r = .ok (.ret (.bool true)) ∧ OldK s1.heap t.heap ∧ t.os = s1.os ∧ AllBare t.gens
/-- the module behind its top, as the law's call finds it -/
structure Top (K : PySem.W.Frag) (mg mb : Str → Option Value) (ts : List (Addr × Addr)) (s1 : Shared) (a : Addr) (vs : List Value) : Prop where
  inK : K.In s1.heap
  nsG : s1.heap.Ns mainGlobals mg
  nsB : s1.heap.Ns builtinsNs mb
  boot : ∀ y : Str, y ≠ "__name__" → mb y = bootBuiltins y
  nolim : s1.heap.NoLimit
  noGen : s1.gens = #[]
  tab : ∀ p ∈ ts, s1.heap.get? p.2 = some { cls := .none, data := .fields #[] }
  notK : ∀ p ∈ ts, K.lookup p.2 = none
  code : ∀ p ∈ ts, PySem.W.CodeHd s1.heap p.1 p.2
  bmod : ∃ (bm : Addr) (ob : Obj), mg "__builtins__" = some (.ref bm) ∧ bm ≠ builtinsNs ∧ s1.heap.get? bm = some ob ∧ ob.cls = .type "module" ∧ ob.dict = some builtinsNs ∧ ob.data = .plain
  lay : s1.heap.get? a = some { cls := .type "list", data := .seq vs.toArray }
section
variable {P : Program} {w : World} {K : PySem.W.Frag} {mg mb : Str → Option Value} {CX : CXT} {k : Nat} {fa a : Addr} {fd : FuncData} {x : Str} {sp : Sp} {s1 : Shared} {vs : List Value} {ns : List Int} {ts : List (Addr × Addr)} {H : Hp}
abbrev tabsOf (ts : List (Addr × Addr)) : List Addr := ts.map (·.2)
theorem Top.tabAt (T : Top K mg mb ts s1 a vs) {b : Addr} (h : b ∈ tabsOf ts) : ∃ p ∈ ts, p.2 = b ∧ s1.heap.get? b = some { cls := .none, data := .fields #[] } := by
  obtain ⟨p, hp, rfl⟩ := List.mem_map.mp h
  exact ⟨p, hp, rfl, T.tab p hp⟩
theorem Top.apart (T : Top K mg mb ts s1 a vs) : a ∉ tabsOf ts := fun h => by
  obtain ⟨_, _, _, e⟩ := T.tabAt h
  rw [T.lay] at e
  cases Option.some.inj e
/-- what is neither a list nor an empty row of fields isn't told of -/
theorem Top.untold (T : Top K mg mb ts s1 a vs) (alone : ∀ b, H b ≠ none → b = a ∨ b ∈ tabsOf ts) {b : Addr} {o : Obj} (e : s1.heap.get? b = some o) (n1 : ∀ us n, o.data ≠ .seq us n) (n2 : o.data ≠ .fields #[]) : H b = none := by
  refine Classical.byContradiction fun z => ?_
  rcases alone b z with rfl | hb
  · rw [T.lay] at e
    cases e
    exact n1 _ _ rfl
  · obtain ⟨_, _, _, e2⟩ := T.tabAt hb
    rw [e2] at e
    cases e
    exact n2 rfl
theorem Top.spaces (T : Top K mg mb ts s1 a vs) (alone : ∀ b, H b ≠ none → b = a ∨ b ∈ tabsOf ts) {b : Addr} {m : Str → Option Value} (h : s1.heap.Ns b m) : (hidT s1.heap H).Ns b m := by
  obtain ⟨o, es, ep, e, d, r⟩ := h
  exact ⟨o, es, ep, hidT_get e (T.untold alone e (fun us n z => by rw [d] at z; cases z) (fun z => by rw [d] at z; cases z)), d, r⟩
theorem Top.frag (T : Top K mg mb ts s1 a vs) (alone : ∀ b, H b ≠ none → b = a ∨ b ∈ tabsOf ts) (notA : H a ≠ none → K.lookup a = none) : K.In (hidT s1.heap H) := by
  intro b o e
  refine hidT_get (T.inK b o e) (Classical.byContradiction fun z => ?_)
  rcases alone b z with rfl | hb
  · rw [notA z] at e; cases e
  · obtain ⟨p, hp, rfl⟩ := List.mem_map.mp hb
    rw [T.notK p hp] at e
    cases e
theorem Top.tables (T : Top K mg mb ts s1 a vs) (alone : ∀ b, H b ≠ none → b = a ∨ b ∈ tabsOf ts) : ∀ p ∈ ts, LamX.TabB (hidT s1.heap H) mg p.1 p.2 := by
  intro p hp
  have lies := T.tab p hp
  obtain ⟨g, gs, gp, ge, gd, _⟩ := id T.nsG
  constructor
  · obtain ⟨o, us, file, tf, flags, tg, inF, text, tt, c1, c2, c3, c4, rest⟩ := T.code p hp
    refine ⟨o, us, file, tf, flags, tg, inF, text, tt, hidT_get c1 (T.untold alone c1 (fun us n z => by rw [c3] at z; cases z) fun z => ?_), c2, c3, c4, rest⟩
    rw [c3] at z
    cases z
    simp at c4
  · obtain ⟨bm, ob, m1, m2, m3, m4, m5, m6⟩ := T.bmod
    have notG : bm ≠ mainGlobals := fun z => by
      subst z
      rw [ge] at m3
      cases m3
      rw [gd] at m6
      cases m6
    have notP : bm ≠ p.2 := fun z => by
      subst z
      rw [lies] at m3
      cases m3
      cases m6
    exact ⟨bm, ob, m1, m2, notG, notP, hidT_get m3 (T.untold alone m3 (fun us n z => by rw [m6] at z; cases z) fun z => by rw [m6] at z; cases z), m4, m5, m6⟩
  · intro z
    rw [z, lies] at ge
    cases ge
    cases gd
theorem law_from (T : Top K mg mb ts s1 a vs) (room : Room k callerA)
    (F : ∀ base : Heap, K.In base → base.Ns mainGlobals mg → (∀ p ∈ ts, LamX.TabB base mg p.1 p.2) → FnG P w K mg base CX k fa fd [x] sp) (bind : ∀ (s : Shared) (u : Value), BindsTo s fd ⟨[u], []⟩ [(x, u)])
    (want : sp [.ref a] H (fun v _ => v = .bl true) fun _ _ _ => False) (never : ∀ H e t, CX [] H s1 (fun _ _ _ => False) e t → False)
    (empty : ∀ p ∈ ts, H p.2 = some (.tbl #[])) (only : ∀ b, H b = none ∨ b ∈ tabsOf ts ∨ ∃ o xs, H b = some (.frz o (.lst xs))) (ok : HOk P w H s1.heap) (alone : ∀ b, H b ≠ none → b = a ∨ b ∈ tabsOf ts) (notA : H a ≠ none → K.lookup a = none) :
    codeAny (model P w) callerA (.call (.ref fa) ⟨[.ref a], []⟩) (LawEnd s1) s1 := by
  have inT := T.frag alone notA
  have gT := T.spaces alone T.nsG
  obtain ⟨mc, lim1, lim2⟩ := id T.nolim
  have env : Env0 P w K mg (hidT s1.heap H) callerA [] s1 H :=
    ⟨rfl, ⟨inT, gT, ⟨mb, T.spaces alone T.nsB, T.boot⟩, mc, T.spaces alone lim1, lim2⟩, fun b o e => of_hidT e, Nat.le_of_eq (hidT_size _ _), trivial, fun b hb => absurd hb List.not_mem_nil, ok, .of_eq T.noGen⟩
  refine codeAny_mono ((F _ inT gT (T.tables alone)).go callerA [] s1 H ⟨[.ref a], []⟩ [.ref a] [.ref a] _ _ room rfl env (bind s1 (.ref a)) (.cons rfl .nil) want) fun r t h => ?_
  rcases r with e | fl
  · exact (never H e t h).elim
  cases fl with
  | ret u =>
    obtain ⟨v, H2, os, bare, un, ok2, rv, rfl⟩ := h
    cases (show u = Value.bool true from rv)
    have old : ∀ b o, b ∉ tabsOf ts → s1.heap.get? b = some o → t.heap.get? b = some o := by
      intro b o off e
      cases hb : H b with
      | none => exact un.keep b o e hb (fun z => absurd z List.not_mem_nil) List.not_mem_nil
      | some u =>
        rcases only b with z | z | ⟨ob, xs, z⟩
        · rw [hb] at z; cases z
        · exact absurd z off
        obtain ⟨p1, _⟩ := ok b _ z
        obtain ⟨p2, _⟩ := ok2 b _ (un.frzs b ob _ z)
        rw [e] at p1
        cases p1
        exact p2
    have grown : ∀ p ∈ ts, ∃ more : Array Value, t.heap.get? p.2 = some { cls := .none, data := .fields more } := by
      intro p hp
      obtain ⟨more, z⟩ := un.tbls p.2 #[] (empty p hp)
      exact ⟨_, ok2 p.2 _ z⟩
    refine ⟨rfl, ⟨fun b o e => ?_, fun b o e => ?_⟩, os, bare⟩
    · by_cases hb : b ∈ tabsOf ts
      · obtain ⟨p, hp, rfl⟩ := List.mem_map.mp hb
        obtain ⟨more, hm⟩ := grown p hp
        have e2 := T.tab p hp
        rw [e2] at e
        cases e
        exact .inr (.inl ⟨((T.code p hp).tab e2).isCodeTable, rfl, #[], more, rfl, by simpa using hm⟩)
      · exact .inl (old b o hb e)
    · by_cases hb : b ∈ tabsOf ts
      · obtain ⟨p, hp, rfl⟩ := List.mem_map.mp hb
        obtain ⟨more, hm⟩ := grown p hp
        exact ⟨_, hm⟩
      · exact ⟨o, old b o hb e⟩
  | next => exact h.elim
  | brk => exact h.elim
  | cont => exact h.elim
theorem law_callG (T : Top K mg mb ts s1 a vs) (areInts : IntsAre vs ns) (short : ns.length ≤ sizeLine) (room : Room k callerA)
    (F : ∀ base : Heap, K.In base → base.Ns mainGlobals mg → (∀ p ∈ ts, LamX.TabB base mg p.1 p.2) → FnG P w K mg base CX k fa fd [x] sp) (bind : ∀ (s : Shared) (u : Value), BindsTo s fd ⟨[u], []⟩ [(x, u)])
    (want : ∀ H : Hp, (∀ p ∈ ts, H p.2 = some (.tbl #[])) → SqL K H a (ns.map V.int) → sp [.ref a] H (fun v _ => v = .bl true) fun _ _ _ => False) (never : ∀ H e t, CX [] H s1 (fun _ _ _ => False) e t → False) :
    codeAny (model P w) callerA (.call (.ref fa) ⟨[.ref a], []⟩) (LawEnd s1) s1 := by
  have rv := vals_ints areInts
  have inTab : ∀ p ∈ ts, p.2 ∈ tabsOf ts := fun p hp => List.mem_map.mpr ⟨p, hp, rfl⟩
  cases inTop : K.lookup a with
  | none =>
    let G : Hp := fun b => if b = a then some (.frz { cls := .type "list", data := .seq vs.toArray } (.lst (ns.map V.int))) else if b ∈ tabsOf ts then some (.tbl #[]) else none
    have at_a : G a = some (.frz { cls := .type "list", data := .seq vs.toArray } (.lst (ns.map V.int))) := if_pos rfl
    have at_t : ∀ b, b ∈ tabsOf ts → G b = some (.tbl #[]) := fun b hb => (if_neg fun z => T.apart (by rw [← z]; exact hb)).trans (if_pos hb)
    have off : ∀ b, b ≠ a → b ∉ tabsOf ts → G b = none := fun b h1 h2 => (if_neg h1).trans (if_neg h2)
    have empty : ∀ p ∈ ts, G p.2 = some (.tbl #[]) := fun p hp => at_t _ (inTab p hp)
    refine law_from T room F bind (want G empty (.inl (.inr ⟨_, at_a⟩))) never empty (fun b => ?_) (fun b u z => ?_) (fun b z => ?_) (fun _ => inTop)
    · by_cases hb : b = a
      · subst hb; exact .inr (.inr ⟨_, _, at_a⟩)
      · by_cases ht : b ∈ tabsOf ts
        · exact .inr (.inl ht)
        · exact .inl (off b hb ht)
    · by_cases hb : b = a
      · subst hb
        rw [at_a] at z
        cases z
        exact ⟨T.lay, by rw [List.length_map]; exact short, vs, _, rv, T.lay⟩
      · by_cases ht : b ∈ tabsOf ts
        · rw [at_t b ht] at z
          cases z
          obtain ⟨_, _, _, e⟩ := T.tabAt ht
          exact e
        · rw [off b hb ht] at z; cases z
    · refine Classical.byContradiction fun q => z (off b (fun h => q (.inl h)) fun h => q (.inr h))
  | some o =>
    have e := T.inK a o inTop
    rw [T.lay] at e
    cases e
    have size : vs.toArray.size ≤ sizeLine := by rw [List.size_toArray, areInts.length]; exact short
    let G : Hp := fun b => if b ∈ tabsOf ts then some (.tbl #[]) else none
    have at_t : ∀ b, b ∈ tabsOf ts → G b = some (.tbl #[]) := fun b hb => if_pos hb
    have off : ∀ b, b ∉ tabsOf ts → G b = none := fun b hb => if_neg hb
    have empty : ∀ p ∈ ts, G p.2 = some (.tbl #[]) := fun p hp => at_t _ (inTab p hp)
    refine law_from (H := G) T room F bind (want G empty (.inr ⟨_, vs.toArray, _, inTop, rfl, rfl, rfl, size, by simpa using rv⟩)) never empty (fun b => ?_) (fun b u z => ?_) (fun b z => ?_) (fun z => absurd (off a T.apart) z)
    · by_cases ht : b ∈ tabsOf ts
      · exact .inr (.inl ht)
      · exact .inl (off b ht)
    · by_cases ht : b ∈ tabsOf ts
      · rw [at_t b ht] at z
        cases z
        obtain ⟨_, _, _, e⟩ := T.tabAt ht
        exact e
      · rw [off b ht] at z; cases z
    · refine Classical.byContradiction fun q => z (off b fun h => q (.inr h))
end
theorem cx_never {P : Program} {w : World} {H : Hp} {s : Shared} {e : Value} {t : Shared} (h : L2.CX P w [] H s (fun _ _ _ => False) e t) : False := by
  obtain ⟨_, _, _, _, _, _, _, _, _, _, _, _, z⟩ := h
  exact z
/-- the goal that the head leaves, from the promise of the law's def -/
theorem walk_ofG {l : PySem.W.OpenLaw} {n k : Nat} {q : Program} {loose : List Str} {XP : (Str → Option Value) → Heap → Prop} {YP : World → Heap → Prop} {d : DefRec} {K : Params → PySem.W.Frag} {x : Str}
    (most : l.most = some n) (small : n ≤ sizeLine) (noDef : d.params.defaults = []) (room : Room k callerA) (inK : ∀ (w : World) (h : Heap), YP w h → (K w.params).In h)
    (F : ∀ (w : World) (mg : Str → Option Value) (fa : Addr) (h : Heap), YP w h → (K w.params).In h → h.Ns mainGlobals mg → mg d.name = some (.ref fa) →
      ∃ (fd : FuncData) (ts : List (Addr × Addr)) (sp : Sp), (∀ p ∈ ts, h.get? p.2 = some { cls := .none, data := .fields #[] }) ∧ (∀ p ∈ ts, (K w.params).lookup p.2 = none) ∧ (∀ p ∈ ts, PySem.W.CodeHd h p.1 p.2) ∧ (∀ (s : Shared) (u : Value), BindsTo s fd ⟨[u], []⟩ [(x, u)]) ∧
        (∀ (H : Hp) (a : Addr) (ns : List Int), ns.length ≤ n → (∀ z ∈ ns, Builtin.Int.intBits z ≤ 1048576) → (∀ p ∈ ts, H p.2 = some (.tbl #[])) → SqL (K w.params) H a (ns.map V.int) → sp [.ref a] H (fun v _ => v = .bl true) fun _ _ _ => False) ∧
        ∀ base : Heap, (K w.params).In base → base.Ns mainGlobals mg → (∀ p ∈ ts, LamX.TabB base mg p.1 p.2) → FnG l.prog w (K w.params) mg base (L2.CX l.prog w) k fa fd [x] sp) :
    PySem.W.WalkO q loose XP YP l.row.toRowW d [] (fun f us => PySem.call f us) := by
  refine Att.attach_callB most noDef ?_
  intro w t0 t1 mg mb fa o pm cd doc a us ns G Y _ _ _ named lay areInts few bits noGen
  have inH := inK w _ Y
  obtain ⟨fd, ts, sp, tab, notK, code, binds, want, promise⟩ := F w mg fa _ Y inH G.T.g named
  have T : Top (K w.params) mg mb ts t1 a us := ⟨inH, G.T.g, G.T.b, G.T.builtins, G.T.nolimit, noGen, tab, notK, code, G.T.bmain, lay⟩
  exact law_callG T areInts (Nat.le_trans few small) room promise binds (fun H e seen => want H a ns few bits e seen) fun H e t z => cx_never z
end Vf

set_option Elab.async false
set_option linter.all false
set_option maxRecDepth 100000
set_option maxHeartbeats 1000000
/-! Vf22: the pen made; the law's def entered. -/
namespace Vf
open PySem PySem.Spec PyProof.Rows L2

def cutI (ns : List Int) (lo hi : Option Int) : List Int := (ns.drop (HT.sIx ns.length 0 lo)).take (HT.sIx ns.length ns.length hi - HT.sIx ns.length 0 lo)
theorem cutV_ints (ns : List Int) (lo hi : Option Int) : cutV (ns.map V.int) lo hi = (cutI ns lo hi).map V.int := by
  unfold cutV cutI
  rw [List.length_map, List.map_take, List.map_drop]
/-- what a def that makes a pen of a script promises -/
def spPen (K : PySem.W.Frag) (hi : Int) : Sp := fun vs H Q _ => ∃ (a : Addr) (ns : List Int), vs = [.ref a] ∧ SqL K H a (ns.map V.int) ∧ ∀ (H' : Hp) (l p : Addr), Sub H H' → l ≠ p → H' l = some (.lst ((cutI ns none (some hi)).map V.int)) → H' p = some (.lst [.ref l, .int 0, .int 0]) → Q (.ref p) H'
section
variable {X : Cx} {x : Str} {hi : Int} {k1 k2 k3 : Nat} {p1 p2 p3 p4 p5 p6 p7 p8 p9 p10 : Pos}
theorem pss_pen (at0 : X.N[0]? = some x) (vis : Vis X.env.scope x) (gl : Gl X "list") (ml : X.mg "list" = none) (dx : (x == ("__debug__" : Str)) = false := by decide) (dc : (x == ("__classdict__" : Str)) = false := by decide)
    (s1 : starEach [.Subscript (.Name x p2) (.Slice none (some (.Constant (.int hi) k1 p3)) none p4) p5] X.env = (false, eval (.Subscript (.Name x p2) (.Slice none (some (.Constant (.int hi) k1 p3)) none p4) p5) X.env) :: starEach [] X.env := by rfl)
    (s2 : starEach (.Call (.Name "list" p1) [.Subscript (.Name x p2) (.Slice none (some (.Constant (.int hi) k1 p3)) none p4) p5] [] p6 :: [.Constant (.int 0) k2 p7, .Constant (.int 0) k3 p8]) X.env = (false, eval (.Call (.Name "list" p1) [.Subscript (.Name x p2) (.Slice none (some (.Constant (.int hi) k1 p3)) none p4) p5] [] p6) X.env) :: starEach [.Constant (.int 0) k2 p7, .Constant (.int 0) k3 p8] X.env := by rfl)
    (s3 : starEach (.Constant (.int 0) k2 p7 :: [.Constant (.int 0) k3 p8]) X.env = (false, eval (.Constant (.int 0) k2 p7) X.env) :: starEach [.Constant (.int 0) k3 p8] X.env := by rfl)
    (s4 : starEach (.Constant (.int 0) k3 p8 :: []) X.env = (false, eval (.Constant (.int 0) k3 p8) X.env) :: starEach [] X.env := by rfl) :
    PSs X [.Return (some (.List [.Call (.Name "list" p1) [.Subscript (.Name x p2) (.Slice none (some (.Constant (.int hi) k1 p3)) none p4) p5] [] p6, .Constant (.int 0) k2 p7, .Constant (.int 0) k3 p8] p9)) p10]
      (fun D σ H => ∃ (a : Addr) (ns : List Int), σ[0]? = some (some (.ref a)) ∧ SqL X.K H a (ns.map V.int) ∧ ∀ (H' : Hp) (l p : Addr), Sub H H' → l ≠ p → H' l = some (.lst ((cutI ns none (some hi)).map V.int)) → H' p = some (.lst [.ref l, .int 0, .int 0]) → D.rt (.ref p) H') := by
  have e1 := pe_slice (X := X) (p2 := p4) (pos := p5) (sl_list (X := X)) (pe_var (i := 0) (pos := p2) at0 vis dx dc) po_none (po_some (pe_int (i := hi) (j := k1) (pos := p3)))
  have e2 := pe_callTy (p := p1) (pos := p6) (call_list_of (X := X)) gl ml boot_list (pa_cons e1 pa_nil s1) (by decide) (by decide) s1 rfl
  have e3 := pe_lst (pos := p9) (pa_cons e2 (pa_cons (pe_int (i := 0) (j := k2) (pos := p7)) (pa_cons (pe_int (i := 0) (j := k3) (pos := p8)) pa_nil s4) s3) s2)
  refine (pss_one (ps_ret (pos := p10) e3)).weak ?_
  rintro D σ H ⟨a, ns, ha, hq, fin⟩
  refine ⟨.ref a, ha, ?_⟩
  refine ⟨hi, rfl, a, _, rfl, hq, fun q nq => ⟨q, _, rfl, .inl (.inl (.inl upd_same)), fun l nl => ⟨by show 3 ≤ sizeLine; decide, fun p np => ?_⟩⟩⟩
  have lq : l ≠ q := fun z => by rw [z, upd_same] at nl; cases nl
  have pl : p ≠ l := fun z => by rw [z, upd_same] at np; cases np
  refine fin _ l p (((sub_upd nq).trans (sub_upd nl)).trans (sub_upd np)) (Ne.symm pl) ?_ upd_same
  rw [upd_ne (Ne.symm pl), upd_same, cutV_ints]
end
/-- .. as a def -/
theorem pen_ok {P : Program} {w : World} {K : PySem.W.Frag} {mg : Str → Option Value} {base : Heap} {x0 x : Str} {st : Stmt} {f : Addr} {fd : FuncData} {hi : Int} {k1 k2 k3 : Nat} {p1 p2 p3 p4 p5 p6 p7 p8 p9 p10 : Pos} (D : DefOk K mg x0 st [x] f fd) (Sc : FnScope [x] [x] (defScope st))
    (body : defBody st = [.Return (some (.List [.Call (.Name "list" p1) [.Subscript (.Name x p2) (.Slice none (some (.Constant (.int hi) k1 p3)) none p4) p5] [] p6, .Constant (.int 0) k2 p7, .Constant (.int 0) k3 p8] p9)) p10])
    (vis : Vis (defScope st) x) (gl : (defScope st).names.lookup ("list" : Str) = some .globalImplicit) (ml : mg "list" = none) (dx : (x == ("__debug__" : Str)) = false) (dc : (x == ("__classdict__" : Str)) = false) :
    FnOk P w K mg base (L2.CX P w) 1 f fd [x] (spPen K hi) := by
  refine D.F.okX Sc (fun vs H Q E h => ?_) fun cdv A outer s H vs Q E hr h => ?_
  · obtain ⟨a, ns, rfl, _⟩ := h; rfl
  · obtain ⟨a, ns, rfl, hq, fin⟩ := h
    rw [body]
    exact ⟨_, pss_pen (X := cxOf (L2.CX P w) P w K mg base [x] x0 (defScope st) f cdv A outer s H E) (x := x) rfl vis gl ml dx dc rfl rfl rfl rfl, a, ns, rfl, hq, fin⟩
/-! ### the law's def: the pen first -/
/-- what a law promises of a script -/
def spLaw (K : PySem.W.Frag) (T : List (Addr × Str)) (good : List Int → Prop) : Sp := fun vs H Q _ => ∃ (a : Addr) (ns : List Int), vs = [.ref a] ∧ SqL K H a (ns.map V.int) ∧ LamX.Tabs T H ∧ good ns ∧ ∀ H', Q (.bl true) H'
/-- the state behind the pen's making: slot 1 holds it -/
def stPen (n : Nat) (ns : List Int) : Sx := ⟨none :: some (.w .pen) :: List.replicate (n - 2) none, some ⟨ns, 0, 0⟩⟩
theorem rel_pen {C : Cb} {H : Hp} {σ : L2.St} {n : Nat} {l : Addr} {ns : List Int} (hl : σ.length = n) (hn : 2 ≤ n) (h1 : σ[1]? = some (some (.ref C.pa))) (tb : LamX.Tabs C.T H) (ne : l ≠ C.pa) (el : H l = some (.lst (ns.map V.int))) (ep : H C.pa = some (.lst [.ref l, .int 0, .int 0])) :
    Rel ⟨C, H, [C.pa], [C.pa]⟩ [C.pa] [C.pa] σ H (stPen n ns) where
  sub := fun b h => h
  trk := fun b h => by rw [List.mem_singleton.mp h]; exact ⟨_, ep, by intro _ z; cases z⟩
  tab := tb
  cells := fun i c e => by
    replace e : (none :: some (Cell.w .pen) :: List.replicate (n - 2) none)[i]? = some (some c) := e
    match i, e with
    | 0, e => simp at e
    | 1, e => simp at e; subst e; exact ⟨_, h1, rfl⟩
    | i + 2, e => simp [List.getElem?_replicate] at e
  inj := fun i j ds es v a _ _ _ => by
    replace a : (none :: some (Cell.w .pen) :: List.replicate (n - 2) none)[i]? = some (some (.lst ds)) := a
    match i, a with
    | 0, a => simp at a
    | 1, a => simp at a
    | i + 2, a => simp [List.getElem?_replicate] at a
  len := by
    show σ.length = (none :: some (Cell.w .pen) :: List.replicate (n - 2) none).length
    simp; omega
  base := Pres.refl H
  fresh := fun b h => .inl h
  gro := Grow.refl H _
  m0 := fun b h => h
  paH := List.mem_singleton.mpr rfl
  pen := fun π e => by
    cases (Option.some.inj (show some (⟨ns, 0, 0⟩ : Pen) = some π from e))
    exact ⟨List.mem_singleton.mpr rfl, l, ep, hid_at (fun z => ne (List.mem_singleton.mp z)) el⟩
theorem law_ok {P : Program} {w : World} {K : PySem.W.Frag} {mg : Str → Option Value} {base : Heap} {cls : Nat → Addr} {T : List (Addr × Str)} {x y xl xp xs : Str} {st stp : Stmt} {f fp : Addr} {fd fdp : FuncData} {N : List Str} {k kp : Nat} {hi : Int} {m : MS} {rest : List Stmt} {good : List Int → Prop} {p1 p2 p3 p4 p5 : Pos}
    (D : DefOk K mg xl st [x] f fd) (Sc : FnScope N [x] (defScope st)) (body : defBody st = .Assign [.Name y p1] (.Call (.Name xp p2) [.Name x p3] [] p4) p5 :: rest) (n0 : N[0]? = some x) (n1 : N[1]? = some y)
    (Dp : DefOk K mg xp stp [xs] fp fdp) (okp : FnOk P w K mg base (L2.CX P w) kp fp fdp [xs] (spPen K hi)) (le : kp ≤ k)
    (vx : Vis (defScope st) x) (ly : Loc (defScope st) y) (gp : (defScope st).names.lookup xp = some .globalImplicit) (dx : (x == ("__debug__" : Str)) = false) (dc : (x == ("__classdict__" : Str)) = false) (dp : (xp == ("__debug__" : Str)) = false)
    (hm : ∀ (pa : Addr) (H0 : Hp) (mu0 ow0 : List Addr) (cdv : Value), fd.code = cdv → ∀ (A : Around) (outer : List Env) (s : Shared) (H : Hp) (E : XK), Room k (cxOf (L2.CX P w) P w K mg base N xl (defScope st) f cdv A outer s H E).A → (cxOf (L2.CX P w) P w K mg base N xl (defScope st) f cdv A outer s H E).A.guards = some [] →
      Hx ⟨⟨K, pa, cls, T⟩, H0, mu0, ow0⟩ (cxOf (L2.CX P w) P w K mg base N xl (defScope st) f cdv A outer s H E) → L2.Takes (cxOf (L2.CX P w) P w K mg base N xl (defScope st) f cdv A outer s H E) (fun cl d _ H => E cl d H) →
      PassesOwn (model P w) (cxOf (L2.CX P w) P w K mg base N xl (defScope st) f cdv A outer s H E).A (cxOf (L2.CX P w) P w K mg base N xl (defScope st) f cdv A outer s H E).env (cxOf (L2.CX P w) P w K mg base N xl (defScope st) f cdv A outer s H E).xe →
      JB ⟨⟨K, pa, cls, T⟩, H0, mu0, ow0⟩ (fun cl d _ H => E cl d H) (cxOf (L2.CX P w) P w K mg base N xl (defScope st) f cdv A outer s H E) rest m)
    (math : ∀ ns, good ns → ∃ S', m (stPen N.length (cutI ns none (some hi))) = .rt (.d (.bool true)) S') :
    FnG P w K mg base (L2.CX P w) (k + 1) f fd [x] (spLaw K T good) := by
  refine fnG_of D.F Sc (fun vs H Q E h => ?_) fun cdv hcdv A outer s H vs Q E hr hg h => ?_
  · obtain ⟨a, ns, rfl, _⟩ := h; rfl
  · obtain ⟨a, ns, rfl, hq, tb, gd, fin⟩ := h
    have two : 2 ≤ N.length := by
      obtain ⟨z, _⟩ := List.getElem?_eq_some_iff.mp n1
      omega
    have tk : L2.Takes (cxOf (L2.CX P w) P w K mg base N xl (defScope st) f cdv A outer s H E) (fun cl d _ H => E cl d H) := takes_of rfl rfl rfl rfl
    have e1 := pe_callS (X := cxOf (L2.CX P w) P w K mg base N xl (defScope st) f cdv A outer s H E) (p := p2) (pos := p4) (E := WE fun cl d _ H => E cl d H) okp (hr.mono le) gp Dp.g Dp.k Dp.b (fun σ => passAt tk σ) (pa_cons (pe_var (i := 0) (pos := p3) n0 vx dx dc) pa_nil rfl) dp rfl rfl
    have t1 := ps_set (X := cxOf (L2.CX P w) P w K mg base N xl (defScope st) f cdv A outer s H E) (i := 1) (pos := p5) (pos' := p1) Sc.nd n1 ly e1 rfl (.inl rfl)
    rw [body]
    refine ⟨_, pss_cons t1 (u := fun D σ H' => ∃ (pa : Addr) (H0 : Hp) (mu0 ow0 : List Addr), tS ⟨⟨K, pa, cls, T⟩, H0, mu0, ow0⟩ (fun cl d _ H => E cl d H) m D σ H') ⟨fun pins s' σ H' D I ⟨pa, H0, mu0, ow0, z⟩ =>
      (hm pa H0 mu0 ow0 cdv hcdv A outer s H E hr hg ⟨rfl, rfl, Sc.nd⟩ tk (passes_of (X := cxOf (L2.CX P w) P w K mg base N xl (defScope st) f cdv A outer s H E) (K := fun e s'' => L2.CX P w outer H s E e s'') (E₁ := fun e' s'' => L2.CX P w outer H s E e' s'') rfl)).run pins s' σ H' D I z⟩, ?_⟩
    have s0 : (L2.start N [V.ref a]).length = N.length := by simp [L2.start]; omega
    refine ⟨.ref a, rfl, a, ns, rfl, hq, fun H' l p su ne el ep => ?_⟩
    refine ⟨p, H', [p], [p], [p], [p], stPen N.length (cutI ns none (some hi)), rel_pen (C := ⟨K, p, cls, T⟩) (by rw [List.length_set]; exact s0) two (List.getElem?_set_self (by omega)) (tb.ext su) ne el ep, ?_⟩
    obtain ⟨S', er⟩ := math ns gd
    rw [er]
    intro v ow2 mu2 σ2 H2 _ _ k2 _
    cases (Rp.bl_inv k2 : v = _)
    exact fin H2
end Vf

set_option Elab.async false
set_option linter.all false
set_option maxRecDepth 100000
set_option maxHeartbeats 1000000
namespace Vf
open PySem PySem.Spec PyProof.Rows L2
theorem zip_typeCall : ∀ us : List Value, us.length ≤ 8 → checkTypeCall "zip" ⟨us, []⟩ = pure ()
  | [], _ => by kernel_rfl
  | [_], _ => by kernel_rfl
  | [_, _], _ => by kernel_rfl
  | [_, _, _], _ => by kernel_rfl
  | [_, _, _, _], _ => by kernel_rfl
  | [_, _, _, _, _], _ => by kernel_rfl
  | [_, _, _, _, _, _], _ => by kernel_rfl
  | [_, _, _, _, _, _, _], _ => by kernel_rfl
  | [_, _, _, _, _, _, _, _], _ => by kernel_rfl
  | _ :: _ :: _ :: _ :: _ :: _ :: _ :: _ :: _ :: _, h => by simp at h
theorem zip_newCall : ∀ us : List Value, us.length ≤ 8 → checkBuiltinCall "zip.__new__" ⟨.type "zip" :: us, []⟩ = pure ()
  | [], _ => by kernel_rfl
  | [_], _ => by kernel_rfl
  | [_, _], _ => by kernel_rfl
  | [_, _, _], _ => by kernel_rfl
  | [_, _, _, _], _ => by kernel_rfl
  | [_, _, _, _, _], _ => by kernel_rfl
  | [_, _, _, _, _, _], _ => by kernel_rfl
  | [_, _, _, _, _, _, _], _ => by kernel_rfl
  | [_, _, _, _, _, _, _, _], _ => by kernel_rfl
  | _ :: _ :: _ :: _ :: _ :: _ :: _ :: _ :: _ :: _, h => by simp at h
theorem zip_initArgs (o : Value) : ∀ us : List Value, us.length ≤ 8 → argsOk "object.__init__" ⟨o :: us, []⟩
  | [], _ => by unfold argsOk; kernel_rfl
  | [_], _ => by unfold argsOk; kernel_rfl
  | [_, _], _ => by unfold argsOk; kernel_rfl
  | [_, _, _], _ => by unfold argsOk; kernel_rfl
  | [_, _, _, _], _ => by unfold argsOk; kernel_rfl
  | [_, _, _, _, _], _ => by unfold argsOk; kernel_rfl
  | [_, _, _, _, _, _], _ => by unfold argsOk; kernel_rfl
  | [_, _, _, _, _, _, _], _ => by unfold argsOk; kernel_rfl
  | [_, _, _, _, _, _, _, _], _ => by unfold argsOk; kernel_rfl
  | _ :: _ :: _ :: _ :: _ :: _ :: _ :: _ :: _ :: _, h => by simp at h
/-- a loop over a list -/
theorem wpAny_forIn {M : Model} {A : Around} {E : Value → Shared → Prop} {α σ : Type} {f : α → σ → Sem (ForInStep σ)} (I : List α → σ → Shared → Prop)
    (st : ∀ a l b s, I (a :: l) b s → wpAny M A (f a b) (fun r s' => ∃ b', r = .yield b' ∧ I l b' s') E s) :
    ∀ (l : List α) (b : σ) (s : Shared), I l b s → ∀ {Q : σ → Shared → Prop}, (∀ b' s', I [] b' s' → Q b' s') → wpAny M A (forIn l b f) Q E s
  | [], b, s, h, Q, q => by rw [List.forIn_nil]; exact wpAny_pure (q _ _ h)
  | a :: l, b, s, h, Q, q => by
    rw [List.forIn_cons]
    refine wpAny_bind (thn (st a l b s h) ?_)
    rintro r s' ⟨b', rfl, h'⟩
    exact wpAny_forIn I st l b' s' h' q
/-- an iterator over a text -/
abbrev TIt := Addr × Str × Tok
def AtT (h : Heap) (i : Nat) (p : TIt) : Prop := h.IsStrIter p.1 (strIterType p.2.1) p.2.1 p.2.2 i
theorem AtT.at {h h' : Heap} {i : Nat} {p : TIt} (x : AtT h i p) (e : ∀ o, h.get? p.1 = some o → h'.get? p.1 = some o) : AtT h' i p := by
  obtain ⟨o, ho, r⟩ := x
  exact ⟨o, e o ho, r⟩
abbrev addrs (L : List TIt) : List Addr := L.map (·.1)
def strVs (xs : List (Str × Tok)) : List Value := xs.map fun p => .str p.1 p.2

section
variable {prog : Program} {w : World} {A : Around} {E : Value → Shared → Prop}
theorem iterAll_texts (xs : List (Str × Tok)) (s : Shared) {Q : List Value → Shared → Prop}
    (h : ∀ h' L, L.map (·.2) = xs → (∀ p ∈ L, AtT h' 0 p) → (addrs L).Nodup → (∀ a ∈ addrs L, s.heap.objs.size ≤ a ∧ a < h'.objs.size) → s.heap.objs.size ≤ h'.objs.size →
      (∀ c o, s.heap.get? c = some o → h'.get? c = some o) → Q ((addrs L).map Value.ref) { s with heap := h' }) :
    wpAny (model prog w) A (Builtin.SmallTypes.iterAll (strVs xs)) Q E s := by
  unfold Builtin.SmallTypes.iterAll
  refine wpAny_bind (wpAny_forIn (I := fun rest (acc : Array Value) s' => ∃ h' L xr, s' = { s with heap := h' } ∧ rest = strVs xr ∧ L.map (·.2) ++ xr = xs ∧ acc.toList = (addrs L).map Value.ref ∧ (∀ p ∈ L, AtT h' 0 p) ∧ (addrs L).Nodup ∧ (∀ a ∈ addrs L, s.heap.objs.size ≤ a ∧ a < h'.objs.size) ∧ s.heap.objs.size ≤ h'.objs.size ∧ (∀ c o, s.heap.get? c = some o → h'.get? c = some o)) ?_ (strVs xs) #[] s ⟨s.heap, [], xs, rfl, rfl, by simp, rfl, by simp, by simp, by simp, Nat.le_refl _, fun _ _ e => e⟩ ?_)
  · rintro a l b s' ⟨h', L, xr, rfl, el, ex, eb, hL, nd, bd, sz, kp⟩
    cases xr with
    | nil => simp [strVs] at el
    | cons x xr =>
      obtain ⟨rfl, rfl⟩ : a = .str x.1 x.2 ∧ l = strVs xr := by simpa [strVs] using el
      refine wpAny_bind (wpAny_holding (wpAny_pyIter_strU (wpAny_pure ⟨_, rfl, h'.push { cls := .type (strIterType x.1), data := .fields #[.str x.1 x.2, .int 0 0] }, L ++ [(h'.objs.size, x)], xr, rfl, rfl, by simpa using ex, by simp [eb, addrs], ?_, ?_, ?_, ?_, ?_⟩)))
      · intro p hp
        rcases List.mem_append.1 hp with q | q
        · exact (hL p q).at fun o e => Heap.get?_push_of_some _ e
        · obtain rfl : p = (h'.objs.size, x) := by simpa using q
          exact ⟨_, Heap.get?_push_size _ rfl, rfl, rfl⟩
      · unfold addrs
        rw [List.map_append, List.nodup_append]
        refine ⟨nd, by simp, fun a ha b hb => ?_⟩
        obtain rfl : b = h'.objs.size := by simpa using hb
        exact Nat.ne_of_lt (bd a ha).2
      · intro a ha
        unfold addrs at ha
        rw [List.map_append] at ha
        rw [Heap.size_push]
        rcases List.mem_append.1 ha with q | q
        · exact ⟨(bd a q).1, Nat.lt_succ_of_lt (bd a q).2⟩
        · obtain rfl : a = h'.objs.size := by simpa using q
          exact ⟨sz, Nat.lt_succ_self _⟩
      · rw [Heap.size_push]; exact Nat.le_succ_of_le sz
      · exact fun c o e => Heap.get?_push_of_some _ (kp c o e)
  · rintro b s' ⟨h', L, xr, rfl, el, ex, eb, hL, nd, bd, sz, kp⟩
    have e : xr = [] := by cases xr with
      | nil => rfl
      | cons x xr => simp [strVs] at el
    subst e
    refine wpAny_pure ?_
    rw [eb]
    exact h h' L (by simpa using ex) hL nd bd sz kp
end
theorem newRec_zip {M : Model} {A : Around} {E : Value → Shared → Prop} {s : Shared} {a b : Addr} {Q : Value → Shared → Prop}
    (h : Q (.ref s.heap.objs.size) { s with heap := s.heap.push { cls := .type "zip", dict := none, data := .fields #[.none, .bool false, .bool false, .ref a, .ref b] } }) :
    wpAny M A (Builtin.SmallTypes.newRecord (.type "zip") (Builtin.SmallTypes.ownedTupleFields ++ [.bool false, .ref a, .ref b])) Q E s := by
  show wpAny M A (newObj (.type "zip") (.fields #[.none, .bool false, .bool false, .ref a, .ref b])) Q E s
  exact wpAny_newObj_type h (by show (5 : Nat) ≤ sizeLine + 2; decide)
theorem meets_zip_new (xs : List (Str × Tok)) (h8 : xs.length ≤ 8) :
    Meets (Builtin.«zip.__new__» ⟨.type "zip" :: strVs xs, []⟩) (fun _ R s => ∀ h' L z TI TO, L.map (·.2) = xs → (∀ p ∈ L, AtT h' 0 p) → (addrs L).Nodup → (∀ a ∈ addrs L, s.heap.objs.size ≤ a ∧ a < TI) → s.heap.objs.size ≤ TI → TI < TO → TO < z →
      h'.get? TI = some { cls := .type "tuple", data := .seq ((addrs L).map Value.ref).toArray } → (∃ its : Array Value, its.size = xs.length ∧ h'.get? TO = some { cls := .type "tuple", data := .seq its }) →
      h'.get? z = some { cls := .type "zip", dict := none, data := .fields #[.none, .bool false, .bool false, .ref TI, .ref TO], slots := #[] } →
      (∀ c o, s.heap.get? c = some o → h'.get? c = some o) → R (.ok (.ret (.ref z))) { s with heap := h' }) :=
  .of_wp fun prog w A R s h => by
    obtain ⟨hp, g, d, tk, os⟩ := s
    have hsub := sub_zip
    have q := fun {A' : Around} {E : Value → Shared → Prop} {Q : List Value → Shared → Prop} => iterAll_texts (prog := prog) (w := w) (A := A') (E := E) xs ⟨hp, g, d, tk, os⟩ (Q := Q)
    wp_walk using q
    rintro h1 L eL hL nd bd sz kp
    have hlen : ((addrs L).map Value.ref).length ≤ 8 := by rw [← eL] at h8; simpa using h8
    refine wpAny_bind (wpAny_newTuple ?_ (by unfold sizeLine; omega))
    refine wpAny_bind (wpAny_newTuple ?_ (by rw [List.length_map]; unfold sizeLine; omega))
    refine wpAny_bind (newRec_zip ?_)
    refine wpAny_pure ⟨_, rfl, ?_⟩
    have z2 : (h1.push { cls := .type "tuple", data := .seq ((addrs L).map Value.ref).toArray }).objs.size = h1.objs.size + 1 := Heap.size_push _ _
    have z3 : ((h1.push { cls := .type "tuple", data := .seq ((addrs L).map Value.ref).toArray }).push { cls := .type "tuple", data := .seq ((((addrs L).map Value.ref).map fun _ => Value.none)).toArray }).objs.size = h1.objs.size + 2 := by rw [Heap.size_push, z2]
    refine h _ L _ h1.objs.size (h1.push { cls := .type "tuple", data := .seq ((addrs L).map Value.ref).toArray }).objs.size eL (fun p hp => (hL p hp).at fun o e => Heap.get?_push_of_some _ (Heap.get?_push_of_some _ (Heap.get?_push_of_some _ e))) nd bd sz ?_ ?_ ?_ ?_ ?_ ?_
    · rw [z2]; exact Nat.lt_succ_self _
    · show _ < (Heap.objs _).size
      rw [z3, z2]; exact Nat.lt_succ_self _
    · exact Heap.get?_push_of_some _ (Heap.get?_push_of_some _ (Heap.get?_push_size _ rfl))
    · exact ⟨_, by rw [List.size_toArray, List.length_map, List.length_map, ← eL]; simp [addrs], Heap.get?_push_of_some _ (Heap.get?_push_size _ rfl)⟩
    · exact Heap.get?_push_size _ rfl
    · exact fun c o e => Heap.get?_push_of_some _ (Heap.get?_push_of_some _ (Heap.get?_push_of_some _ (kp c o e)))

/-- the cells of a zip over texts, all at turn i -/
structure ZipT (h : Heap) (z TI TO : Addr) (L : List TIt) (i : Nat) : Prop where
  z : ∃ f0 f1 : Value, (f0 = .none ∨ ∃ T : Nat, f0 = rawInt T) ∧ (∃ b, f1 = .bool b) ∧ h.get? z = some { cls := .type "zip", dict := none, data := .fields #[f0, f1, .bool false, .ref TI, .ref TO], slots := #[] }
  ti : h.get? TI = some { cls := .type "tuple", data := .seq ((addrs L).map Value.ref).toArray }
  to : ∃ its : Array Value, its.size = L.length ∧ h.get? TO = some { cls := .type "tuple", data := .seq its }
  its : ∀ p ∈ L, AtT h i p
structure ZSep (z TI TO : Addr) (L : List TIt) : Prop where
  nd : (addrs L).Nodup
  zL : z ∉ addrs L
  tiL : TI ∉ addrs L
  toL : TO ∉ addrs L
  tiz : TI ≠ z
  toz : TO ≠ z
  tito : TI ≠ TO
section
variable {prog : Program} {w : World} {A : Around} {E : Value → Shared → Prop} {s : Shared}
theorem call_zipN {xs : List (Str × Tok)} (h8 : xs.length ≤ 8) {Q : Value → Shared → Prop}
    (h : ∀ h' L z TI TO, L.map (·.2) = xs → ZipT h' z TI TO L 0 → ZSep z TI TO L → (∀ a ∈ z :: TI :: TO :: addrs L, s.heap.objs.size ≤ a) → (∀ c o, s.heap.get? c = some o → h'.get? c = some o) → Q (.ref z) { s with heap := h' }) :
    wpAny (model prog w) A (call (.type "zip") (strVs xs)) Q E s := by
  have hl : (strVs xs).length ≤ 8 := by simpa [strVs] using h8
  refine callType_new F.called_zip (by decide) (zip_typeCall _ hl) (zip_newCall _ hl) (fun obj => zip_initArgs obj _ hl) F.entry_zip_new (meets_zip_new xs h8) ?_
  intro h' L z TI TO eL hL nd bd sz l1 l2 gI gO gz kp
  have ltz : TI < z := Nat.lt_trans l1 l2
  refine ⟨⟨_, gz, rfl⟩, h h' L z TI TO eL ⟨⟨_, _, .inl rfl, ⟨_, rfl⟩, gz⟩, gI, ?_, hL⟩ ⟨nd, fun q => absurd (bd _ q).2 (Nat.not_lt.2 (Nat.le_of_lt ltz)), fun q => absurd (bd _ q).2 (Nat.lt_irrefl _), fun q => absurd (bd _ q).2 (Nat.not_lt.2 (Nat.le_of_lt l1)), Nat.ne_of_lt ltz, Nat.ne_of_lt l2, Nat.ne_of_lt l1⟩ ?_ kp⟩
  · obtain ⟨its, e, g⟩ := gO
    exact ⟨its, by rw [e, ← eL]; simp, g⟩
  · intro a ha
    rcases List.mem_cons.1 ha with rfl | ha
    · exact Nat.le_of_lt (Nat.lt_of_le_of_lt sz ltz)
    rcases List.mem_cons.1 ha with rfl | ha
    · exact sz
    rcases List.mem_cons.1 ha with rfl | ha
    · exact Nat.le_of_lt (Nat.lt_of_le_of_lt sz l1)
    exact (bd a ha).1
theorem alive_any {a : Addr} {Q : Option Obj → Shared → Prop} (h : Q (s.heap.get? a) s) : wpAny (model prog w) A (loadIfAlive a) Q E s := fun _ _ _ => h
/-- is the tuple given out free again? either way -/
theorem owned_zip {z TI TO : Addr} {f0 f1 : Value} {Q : Bool → Shared → Prop} (c0 : f0 = .none ∨ ∃ T : Nat, f0 = rawInt T) (c1 : ∃ b, f1 = .bool b)
    (hz : s.heap.get? z = some { cls := .type "zip", dict := none, data := .fields #[f0, f1, .bool false, .ref TI, .ref TO], slots := #[] })
    (h : ∀ b h' g0 g1, (g0 = .none ∨ ∃ T : Nat, g0 = rawInt T) → (∃ b, g1 = .bool b) → h'.get? z = some { cls := .type "zip", dict := none, data := .fields #[g0, g1, .bool false, .ref TI, .ref TO], slots := #[] } → Heap.SameBut z s.heap h' → Q b { s with heap := h' }) :
    wpAny (model prog w) A (Builtin.SmallTypes.ownedTupleIsFree (.ref z)) Q E s := by
  unfold Builtin.SmallTypes.ownedTupleIsFree
  obtain ⟨b1, rfl⟩ := c1
  rcases c0 with rfl | ⟨T, rfl⟩
  · refine wpAny_bind (wpAny_field hz rfl (x := .none) rfl (wpAny_pure ?_))
    exact h true s.heap _ _ (.inl rfl) ⟨_, rfl⟩ hz (Heap.SameBut.refl _ _)
  · refine wpAny_bind (wpAny_field hz rfl (x := rawInt T) rfl ?_)
    show wpAny _ _ (loadIfAlive ((T : Int).toNat) >>= _) _ _ _
    rw [Int.toNat_natCast]
    refine wpAny_bind (alive_any ?_)
    cases hT : s.heap.get? T with
    | none =>
      simp only [Option.isNone_none, if_true]
      exact wpAny_pure (h _ s.heap _ _ (.inr ⟨_, rfl⟩) ⟨_, rfl⟩ hz (Heap.SameBut.refl _ _))
    | some oT =>
      simp only [Option.isNone_some, Bool.false_eq_true, if_false]
      refine wpAny_bind (wpAny_field hz rfl (x := .bool b1) rfl ?_)
      cases b1 with
      | true =>
        rw [if_neg (show ¬ ((Value.bool true != Value.bool true) = true) from Bool.false_ne_true)]
        exact wpAny_pure (h _ s.heap _ _ (.inr ⟨_, rfl⟩) ⟨_, rfl⟩ hz (Heap.SameBut.refl _ _))
      | false =>
        rw [if_pos (show (Value.bool false != Value.bool true) = true from rfl)]
        exact wpAny_bind (wpAny_setField_rec hz (by simp) fun h₁ hz₁ hs₁ => wpAny_pure (h _ h₁ _ _ (.inr ⟨_, rfl⟩) ⟨_, rfl⟩ hz₁ hs₁))
end
end Vf

set_option Elab.async false
set_option linter.all false
set_option maxRecDepth 100000
set_option maxHeartbeats 1000000
namespace Vf
open PySem PySem.Spec PyProof.Rows L2
open PySem.Sem (wp)
section
variable {prog : Program} {w : World} {A : Around} {E : Value → Shared → Prop} {s : Shared}
abbrev sgn (i : Nat) (p : TIt) : V := .str ⟨#[p.2.1.cps.getD i 0]⟩
theorem next_text {p : TIt} {i : Nat} {Q : Value → Shared → Prop} (hh : A.handled = none) (a : AtT s.heap i p) (hi : i < p.2.1.cps.size)
    (hQ : ∀ u h' tk, RelV (sgn i p) u → AtT h' (i + 1) p → Heap.SameBut p.1 s.heap h' → Q u { s with heap := h', toks := tk }) : wpAny (model prog w) A (Builtin.SmallTypes.nextOf (.ref p.1)) Q E s :=
  (Draws.text hh p.1 p.2.1 p.2.2).item i s Q E hi a fun u h' tk ⟨c, t, e, eu⟩ st sb => hQ u h' tk (by
    subst eu
    show RelV (.str ⟨#[p.2.1.cps.getD i 0]⟩) _
    have : p.2.1.cps.getD i 0 = c := by simp [Array.getD_eq_getD_getElem?, e]
    rw [this]
    exact ⟨t, rfl⟩) st sb
theorem next_text_end {p : TIt} {i : Nat} {Q : Value → Shared → Prop} (hh : A.handled = none) (a : AtT s.heap i p) (hi : i = p.2.1.cps.size)
    (hE : ∀ h' e, Heap.ExtBut p.1 s.heap h' → (∃ o, h'.get? e = some o ∧ o.cls = .type "StopIteration") → E (.ref e) { s with heap := h' }) : wpAny (model prog w) A (Builtin.SmallTypes.nextOf (.ref p.1)) Q E s :=
  (Draws.text hh p.1 p.2.1 p.2.2).done s Q E (by rw [← hi]; exact a) hE

theorem nd_ne {L1 L2 : List TIt} {p q : TIt} (h : (addrs (L1 ++ p :: L2)).Nodup) (hq : q ∈ L1 ∨ q ∈ L2) : q.1 ≠ p.1 := by
  unfold addrs at h
  rw [List.map_append, List.map_cons, List.nodup_append] at h
  obtain ⟨h1, h2, h3⟩ := h
  rcases hq with hq | hq
  · exact h3 _ (List.mem_map_of_mem hq) _ (List.mem_cons_self ..)
  · exact fun e => (List.nodup_cons.1 h2).1 (e ▸ List.mem_map_of_mem hq)
theorem AtT.but {h h' : Heap} {i : Nat} {p : TIt} {a : Addr} (x : AtT h i p) (sb : Heap.SameBut a h h') (ne : p.1 ≠ a) : AtT h' i p := x.at fun o e => (sb.2 _ ne).trans e
/-- the state of a loop over the iterators: those done are a turn further -/
structure Mid (h1 h' : Heap) (L done rest : List TIt) (i : Nat) (us : List Value) : Prop where
  spl : L = done ++ rest
  vs : Vals (done.map (sgn i)) us
  dn : ∀ p ∈ done, AtT h' (i + 1) p
  rs : ∀ p ∈ rest, AtT h' i p
  sz : h'.objs.size = h1.objs.size
theorem Mid.step {h1 h2 h3 : Heap} {L done rest : List TIt} {p : TIt} {i : Nat} {us : List Value} {u : Value} (M : Mid h1 h2 L done (p :: rest) i us) (nd : (addrs L).Nodup) (r : RelV (sgn i p) u) (st : AtT h3 (i + 1) p) (sb : Heap.SameBut p.1 h2 h3) :
    Mid h1 h3 L (done ++ [p]) rest i (us ++ [u]) := by
  have nd' := nd
  rw [M.spl] at nd'
  refine ⟨by rw [M.spl]; simp, ?_, fun q hq => ?_, fun q hq => ?_, by rw [sb.1, M.sz]⟩
  · rw [List.map_append]
    exact M.vs.append (.cons r .nil)
  · rcases List.mem_append.1 hq with z | z
    · exact (M.dn q z).but sb (nd_ne nd' (.inl z))
    · obtain rfl : q = p := by simpa using z
      exact st
  · exact (M.rs q (List.mem_cons_of_mem _ hq)).but sb (nd_ne nd' (.inr hq))
theorem Mid.other {h1 h2 h3 : Heap} {L done rest : List TIt} {i : Nat} {us : List Value} {a : Addr} (M : Mid h1 h2 L done rest i us) (sb : Heap.SameBut a h2 h3) (na : a ∉ addrs L) : Mid h1 h3 L done rest i us := by
  have ne : ∀ q ∈ L, q.1 ≠ a := fun q hq e => na (e ▸ List.mem_map_of_mem hq)
  exact ⟨M.spl, M.vs, fun q hq => (M.dn q hq).but sb (ne q (by rw [M.spl]; exact List.mem_append_left _ hq)), fun q hq => (M.rs q hq).but sb (ne q (by rw [M.spl]; exact List.mem_append_right _ hq)), by rw [sb.1, M.sz]⟩
theorem ZipT.mid {h h1 : Heap} {z TI TO : Addr} {L : List TIt} {i : Nat} (Z : ZipT h z TI TO L i) (S : ZSep z TI TO L) (sb : Heap.SameBut z h h1) : Mid h1 h1 L [] L i [] :=
  ⟨rfl, .nil, fun q hq => by simp at hq, fun q hq => (Z.its q hq).but sb fun e => S.zL (e ▸ List.mem_map_of_mem hq), rfl⟩
/-- next of a zip of texts -/
theorem zip_next {z TI TO : Addr} {L : List TIt} {i : Nat} {Q : Value → Shared → Prop} (hh : A.handled = none) (S : ZSep z TI TO L) (Z : ZipT s.heap z TI TO L i) (hne : L ≠ []) (h8 : L.length ≤ 8) (hi : ∀ p ∈ L, i < p.2.1.cps.size)
    (hQ : ∀ h' tk us, Vals (L.map (sgn i)) us → ZipT h' z TI TO L (i + 1) → h'.objs.size = s.heap.objs.size + 1 → h'.get? s.heap.objs.size = some { cls := .type "tuple", data := .seq us.toArray } →
      (∀ c o, c ∉ z :: TO :: addrs L → s.heap.get? c = some o → h'.get? c = some o) → Q (.ref s.heap.objs.size) { s with heap := h', toks := tk }) :
    wpAny (model prog w) A (Builtin.«zip.__next__» ⟨[.ref z], []⟩) (fun fin s' => ∃ v, fin = .done (.ret v) ∧ Q v s') E s := by
  obtain ⟨f0, f1, c0, c1, hz⟩ := Z.z
  show wpAny _ _ (field (.ref z) 2 >>= _) _ _ _
  refine wpAny_bind (wpAny_field hz rfl (x := .bool false) rfl ?_)
  show wpAny _ _ (field (.ref z) 3 >>= _) _ _ _
  refine wpAny_bind (wpAny_field hz rfl (x := .ref TI) rfl ?_)
  refine wpAny_bind (wpAny_seqItems Z.ti rfl ?_)
  have ne : ((addrs L).map Value.ref).toArray.isEmpty = false := by
    cases L with
    | nil => exact (hne rfl).elim
    | cons p L => rfl
  simp only [ne, Bool.false_eq_true, if_false]
  refine wpAny_bind (owned_zip c0 c1 hz fun b h1 g0 g1 d0 d1 hz1 sb1 => ?_)
  have M1 := Z.mid S sb1
  have zTI : h1.get? TI = some { cls := .type "tuple", data := .seq ((addrs L).map Value.ref).toArray } := (sb1.2 _ S.tiz).trans Z.ti
  obtain ⟨io, sio, gio⟩ := Z.to
  have zTO : h1.get? TO = some { cls := .type "tuple", data := .seq io } := (sb1.2 _ S.toz).trans gio
  cases b with
  | false =>
    simp only [Bool.false_eq_true, if_false]
    rw [← Array.forIn_toList]
    refine wpAny_bind (wpAny_forIn (I := fun rest (st : Option Fin × Array Value) s' => ∃ h' tk done restL, s' = { s with heap := h', toks := tk } ∧ rest = (addrs restL).map Value.ref ∧ st.1 = none ∧ Mid h1 h' L done restL i st.2.toList ∧ ∀ c, c ∉ addrs L → h'.get? c = h1.get? c) ?_ _ _ _ ⟨h1, s.toks, [], L, rfl, rfl, rfl, M1, fun _ _ => rfl⟩ ?_)
    · rintro a l ⟨st1, acc⟩ s' ⟨h2, tk, done, restL, rfl, er, e1, M, kp⟩
      obtain rfl : st1 = none := e1
      cases restL with
      | nil => simp at er
      | cons p restL =>
        obtain ⟨rfl, rfl⟩ : a = .ref p.1 ∧ l = (addrs restL).map Value.ref := by simpa using er
        have pm : p ∈ L := by rw [M.spl]; simp
        refine wpAny_bind (wpAny_holding ?_)
        show wpAny _ _ (Builtin.SmallTypes.nextOf (.ref p.1) >>= _) _ _ _
        refine wpAny_bind (next_text hh (s := { s with heap := h2, toks := tk }) (M.rs p (List.mem_cons_self ..)) (hi p pm) fun u h3 tk3 ru st3 sb3 => wpAny_pure ?_)
        refine wpAny_pure ⟨_, rfl, h3, tk3, done ++ [p], restL, rfl, rfl, rfl, ?_, fun c hc => ?_⟩
        · have := M.step S.nd ru st3 sb3
          simpa using this
        · rw [sb3.2 c fun e => hc (e ▸ List.mem_map_of_mem pm)]
          exact kp c hc
    · rintro ⟨st1, acc⟩ s' ⟨h2, tk, done, restL, rfl, er, e1, M, kp⟩
      obtain rfl : st1 = none := e1
      obtain rfl : restL = [] := by cases restL with
        | nil => rfl
        | cons p r => simp at er
      have el : L = done := by simpa using M.spl
      subst el
      have ln : acc.toList.length ≤ 8 := by rw [← M.vs.length]; simpa using h8
      refine wpAny_bind (wpAny_newTuple ?_ (by show acc.toList.length ≤ sizeLine; unfold sizeLine; omega))
      have hsz : h2.objs.size = s.heap.objs.size := by rw [M.sz, sb1.1]
      refine wpAny_pure ⟨_, rfl, ?_⟩
      show Q (.ref h2.objs.size) { s with heap := h2.push { cls := .type "tuple", data := .seq acc.toList.toArray }, toks := tk }
      have hp : (h2.push { cls := .type "tuple", data := .seq acc.toList.toArray }).get? h2.objs.size = some { cls := .type "tuple", data := .seq acc.toList.toArray } := Heap.get?_push_size _ rfl
      have hz4 : (h2.push { cls := .type "tuple", data := .seq acc.toList.toArray }).objs.size = h2.objs.size + 1 := Heap.size_push ..
      rw [hsz] at hp hz4 ⊢
      refine hQ _ tk acc.toList M.vs ⟨⟨g0, g1, d0, d1, Heap.get?_push_of_some _ ((kp z S.zL).trans hz1)⟩, Heap.get?_push_of_some _ ((kp TI S.tiL).trans zTI), ⟨io, sio, Heap.get?_push_of_some _ ((kp TO S.toL).trans zTO)⟩, fun p hp => (M.dn p hp).at fun o e => Heap.get?_push_of_some _ e⟩ hz4 hp fun c o hc e => Heap.get?_push_of_some _ ?_
      rw [kp c fun q => hc (by simp [q]), sb1.2 c fun q => hc (by simp [q])]
      exact e
  | true =>
    simp only [if_true]
    refine wpAny_bind (wpAny_rule ?_)
    refine wpAny_bind (wpAny_field hz1 rfl (x := .ref TO) rfl ?_)
    refine wpAny_bind (wpAny_setField_rec hz1 (by simp) fun h1' hz1' sb1' => ?_)
    replace hz1' : h1'.get? z = some { cls := .type "zip", dict := none, data := .fields #[.ellipsis, g1, .bool false, .ref TI, .ref TO], slots := #[] } := hz1'
    replace sb1' : Heap.SameBut z h1 h1' := sb1'
    have M2 : Mid h1 h1' L [] L i [] := M1.other sb1' S.zL
    have zTO' : h1'.get? TO = some { cls := .type "tuple", data := .seq io } := (sb1'.2 _ S.toz).trans zTO
    refine wpAny_bind (wpAny_forIn (I := fun rest (st : Option Fin × Unit) s' => ∃ h' tk done restL us arr, s' = { s with heap := h', toks := tk } ∧ rest = ((addrs restL).map Value.ref).zipIdx done.length ∧ st.1 = none ∧ Mid h1 h' L done restL i us ∧ (∀ c, c ∉ TO :: addrs L → h'.get? c = h1'.get? c) ∧
        h'.get? TO = some { cls := .type "tuple", data := .seq arr } ∧ arr.size = L.length ∧ arr.toList.take done.length = us) ?_ _ _ _ ⟨h1', s.toks, [], L, [], io, rfl, rfl, rfl, M2, fun _ _ => rfl, zTO', sio, rfl⟩ ?_)
    · rintro a l ⟨st1, acc⟩ s' ⟨h2, tk, done, restL, us, arr, rfl, er, e1, M, kp, gTO, sz, tke⟩
      obtain rfl : st1 = none := e1
      cases restL with
      | nil => simp at er
      | cons p restL =>
        obtain ⟨rfl, rfl⟩ : a = (.ref p.1, done.length) ∧ l = ((addrs restL).map Value.ref).zipIdx (done.length + 1) := by simpa [List.zipIdx_cons] using er
        have pm : p ∈ L := by rw [M.spl]; simp
        have ptl : TO ≠ p.1 := fun e => S.toL (e ▸ List.mem_map_of_mem pm)
        have lt : done.length < arr.size := by rw [sz, M.spl]; simp
        have szl : arr.size ≤ 8 := by rw [sz]; exact h8
        refine wpAny_bind (wpAny_onRaise ?_)
        show wpAny _ _ (Builtin.SmallTypes.nextOf (.ref p.1) >>= _) _ _ _
        refine wpAny_bind (next_text hh (s := { s with heap := h2, toks := tk }) (M.rs p (List.mem_cons_self ..)) (hi p pm) fun u h3 tk3 ru st3 sb3 => wpAny_pure ?_)
        have gTO3 : h3.get? TO = some { cls := .type "tuple", data := .seq arr } := (sb3.2 _ ptl).trans gTO
        refine wpAny_bind (wpAny_seqItems (s := { s with heap := h3, toks := tk3 }) gTO3 rfl ?_)
        refine wpAny_bind (wpAny_updateSeq (s := { s with heap := h3, toks := tk3 }) gTO3 rfl ?_ (by unfold sizeLine; omega) (by rw [Array.size_setIfInBounds]; unfold sizeLine; omega))
        refine wpAny_bind (wpAny_letGo (wpAny_pure ?_))
        have sb4 : Heap.SameBut TO h3 (h3.update TO (Obj.mapSeq fun x => x.setIfInBounds done.length u)) := Heap.SameBut.update ..
        have g4 : (h3.update TO (Obj.mapSeq fun x => x.setIfInBounds done.length u)).get? TO = some { cls := .type "tuple", data := .seq (arr.setIfInBounds done.length u) } := by
          rw [Heap.get?_update_self _ gTO3 rfl]
          simp [Obj.mapSeq]
        refine ⟨_, rfl, _, tk3, done ++ [p], restL, us ++ [u], arr.setIfInBounds done.length u, rfl, by simp, rfl, (M.step S.nd ru st3 sb3).other sb4 S.toL, fun c hc => ?_, g4, by rw [Array.size_setIfInBounds, sz], ?_⟩
        · have c1 : c ≠ TO := fun e => hc (by simp [e])
          have c2 : c ≠ p.1 := fun e => hc (List.mem_cons_of_mem _ (e ▸ List.mem_map_of_mem pm))
          rw [sb4.2 c c1, sb3.2 c c2]
          exact kp c hc
        · rw [Array.toList_setIfInBounds, List.length_append, List.length_singleton, ← tke]
          have hl : done.length < arr.toList.length := by simpa using lt
          rw [List.take_succ, List.getElem?_set_self hl]
          rw [List.take_set_of_le (Nat.le_refl _)]
          rfl
    · rintro ⟨st1, acc⟩ s' ⟨h2, tk, done, restL, us, arr, rfl, er, e1, M, kp, gTO, sz, tke⟩
      obtain rfl : st1 = none := e1
      obtain rfl : restL = [] := by cases restL with
        | nil => rfl
        | cons p r => simp at er
      have el : L = done := by simpa using M.spl
      subst el
      have eus : arr.toList = us := by rw [← tke]; exact (List.take_of_length_le (by rw [Array.length_toList, sz]; exact Nat.le_refl _)).symm
      subst eus
      refine wpAny_bind (wpAny_seqItems (s := { s with heap := h2, toks := tk }) gTO rfl ?_)
      have ln : arr.toList.length ≤ 8 := by rw [Array.length_toList, sz]; exact h8
      refine wpAny_bind (wpAny_newTuple ?_ (by unfold sizeLine; omega))
      have hsz : h2.objs.size = s.heap.objs.size := by rw [M.sz, sb1.1]
      have gz2 : h2.get? z = some { cls := .type "zip", dict := none, data := .fields #[.ellipsis, g1, .bool false, .ref TI, .ref TO], slots := #[] } := (kp z fun q => by
        rcases List.mem_cons.1 q with q | q
        · exact S.toz q.symm
        · exact S.zL q).trans hz1'
      have zlt : z < h2.objs.size := Heap.lt_size gz2
      show wpAny _ _ (Builtin.SmallTypes.ownedTupleHandOut (.ref z) (.ref h2.objs.size) >>= _) _ _ { s with heap := h2.push { cls := .type "tuple", data := .seq arr.toList.toArray }, toks := tk }
      refine wpAny_bind ?_
      unfold Builtin.SmallTypes.ownedTupleHandOut
      have hz₆ : (h2.push { cls := .type "tuple", data := .seq arr.toList.toArray }).get? z = some { cls := .type "zip", dict := none, data := .fields #[.ellipsis, g1, .bool false, .ref TI, .ref TO], slots := #[] } := Heap.get?_push_of_some _ gz2
      refine wpAny_bind (wpAny_setField_rec hz₆ (by simp) fun h₇ hz₇ hs₇ => ?_)
      replace hz₇ : h₇.get? z = some { cls := .type "zip", dict := none, data := .fields #[rawInt h2.objs.size, g1, .bool false, .ref TI, .ref TO], slots := #[] } := hz₇
      replace hs₇ : Heap.SameBut z (h2.push { cls := .type "tuple", data := .seq arr.toList.toArray }) h₇ := hs₇
      refine wpAny_setField_rec hz₇ (by simp) fun h₈ hz₈ hs₈ => ?_
      replace hz₈ : h₈.get? z = some { cls := .type "zip", dict := none, data := .fields #[rawInt h2.objs.size, .bool false, .bool false, .ref TI, .ref TO], slots := #[] } := hz₈
      replace hs₈ : Heap.SameBut z h₇ h₈ := hs₈
      have up : ∀ c o, c ≠ z → h2.get? c = some o → h₈.get? c = some o := fun c o c1 e => (hs₈.2 _ c1).trans ((hs₇.2 _ c1).trans (Heap.get?_push_of_some _ e))
      have hT₈ : h₈.get? h2.objs.size = some { cls := .type "tuple", data := .seq arr.toList.toArray } := (hs₈.2 _ (Nat.ne_of_gt zlt)).trans ((hs₇.2 _ (Nat.ne_of_gt zlt)).trans (Heap.get?_push_size _ rfl))
      have hz8 : h₈.objs.size = h2.objs.size + 1 := by rw [hs₈.1, hs₇.1, Heap.size_push]
      refine wpAny_pure ⟨_, rfl, ?_⟩
      show Q (.ref h2.objs.size) { s with heap := h₈, toks := tk }
      rw [hsz] at hz8 hT₈ ⊢
      refine hQ h₈ tk arr.toList M.vs ⟨⟨_, _, .inr ⟨_, rfl⟩, ⟨_, rfl⟩, hz₈⟩, up _ _ S.tiz ((kp TI fun q => ?_).trans ((sb1'.2 _ S.tiz).trans zTI)), ⟨arr, sz, up _ _ S.toz gTO⟩, fun p hp => (M.dn p hp).at fun o e => up _ _ (fun q => S.zL (q ▸ List.mem_map_of_mem hp)) e⟩ hz8 hT₈ fun c o hc e => up _ _ (fun q => hc (by simp [q])) ?_
      · rcases List.mem_cons.1 q with q | q
        · exact S.tito q
        · exact S.tiL q
      · have cz : c ≠ z := fun q => hc (by simp [q])
        rw [kp c fun q => hc (List.mem_cons_of_mem _ q), sb1'.2 c cz, sb1.2 c cz]
        exact e
end
end Vf

set_option Elab.async false
set_option linter.all false
set_option maxRecDepth 100000
set_option maxHeartbeats 1000000
/-! Vf23: a tuple or a list that is walked; zip(*xs) of texts of one length. -/
namespace Vf
open PySem PySem.Spec PyProof.Rows L2
open PySem.Sem (wp)

/-- a tuple or a list that is walked -/
def mItA (me : ME) : MI := fun S => (me S).bind fun w S1 => RE.of (match wt w with
  | some ds => some ds
  | none => itl S1 w) S1
theorem itA_t {me : ME} {S S1 : Sx} {w : W} {ds : List PyData} (e : me S = .ok w S1) (h : wt w = some ds) : mItT me S = mItA me S := by
  unfold mItT mItA
  rw [e]
  show RE.of (wt w) S1 = RE.of (match wt w with
    | some ds => some ds
    | none => itl S1 w) S1
  rw [h]
theorem itA_l {me : ME} {S S1 : Sx} {w : W} (e : me S = .ok w S1) (h : wt w = none) : mItL me S = mItA me S := by
  unfold mItL mItA
  rw [e]
  show RE.of (itl S1 w) S1 = RE.of (match wt w with
    | some ds => some ds
    | none => itl S1 w) S1
  rw [h]
theorem ji_seq {C : Cn} {Wx : WX} {X : Cx} {e : Expr} {me : ME} {tg : Expr} (hx : Hx C X) (h : JE C Wx X e me) : JI C Wx X tg e (mItA me) where
  pi := by
    refine ⟨fun pins s σ H Rr I ⟨ow, mu, S, R, q⟩ => ?_⟩
    have byT : mItT me S = mItA me S → _ := fun z => (ji_tup (tg := tg) hx h).pi.run pins s σ H Rr I ⟨ow, mu, S, R, by rw [z]; exact q⟩
    cases em : me S with
    | ok w S1 =>
      cases ew : wt w with
      | some ds => exact byT (itA_t em ew)
      | none => exact (ji_list (tg := tg) hx h).pi.run pins s σ H Rr I ⟨ow, mu, S, R, by rw [itA_l em ew]; exact q⟩
    | ex c l S1 => exact byT (by unfold mItT mItA; rw [em]; rfl)
    | bad => exact byT (by unfold mItT mItA; rw [em]; rfl)
  shp := shp_bind h.shp fun w => shp_of
section
variable {prog : Program} {w : World} {A : Around} {E : Value → Shared → Prop} {s : Shared}
theorem zip_end {z TI TO : Addr} {L : List TIt} {i : Nat} {Q : Fin → Shared → Prop} (hh : A.handled = none) (S : ZSep z TI TO L) (Z : ZipT s.heap z TI TO L i) (hne : L ≠ []) (hi : ∀ p ∈ L, i = p.2.1.cps.size)
    (hE : ∀ h' e, (∀ c o, c ∉ z :: TO :: addrs L → s.heap.get? c = some o → h'.get? c = some o) → (∃ o, h'.get? e = some o ∧ o.cls = .type "StopIteration") → E (.ref e) { s with heap := h' }) :
    wpAny (model prog w) A (Builtin.«zip.__next__» ⟨[.ref z], []⟩) Q E s := by
  obtain ⟨f0, f1, c0, c1, hz⟩ := Z.z
  show wpAny _ _ (field (.ref z) 2 >>= _) _ _ _
  refine wpAny_bind (wpAny_field hz rfl (x := .bool false) rfl ?_)
  show wpAny _ _ (field (.ref z) 3 >>= _) _ _ _
  refine wpAny_bind (wpAny_field hz rfl (x := .ref TI) rfl ?_)
  refine wpAny_bind (wpAny_seqItems Z.ti rfl ?_)
  have ne : ((addrs L).map Value.ref).toArray.isEmpty = false := by
    cases L with
    | nil => exact (hne rfl).elim
    | cons p L => rfl
  simp only [ne, Bool.false_eq_true, if_false]
  refine wpAny_bind (owned_zip c0 c1 hz fun b h1 g0 g1 d0 d1 hz1 sb1 => ?_)
  have M1 := Z.mid S sb1
  cases L with
  | nil => exact (hne rfl).elim
  | cons p L =>
    have pz : p.1 ≠ z := fun e => S.zL (by simp [← e])
    cases b with
    | false =>
      simp only [Bool.false_eq_true, if_false]
      rw [← Array.forIn_toList]
      show wpAny _ _ (forIn (Value.ref p.1 :: _) _ _ >>= _) _ _ _
      rw [List.forIn_cons]
      refine wpAny_bind (wpAny_bind (wpAny_bind (wpAny_holding ?_)))
      show wpAny _ _ (Builtin.SmallTypes.nextOf (.ref p.1) >>= _) _ _ _
      refine wpAny_bind (next_text_end (s := { s with heap := h1 }) hh (M1.rs p (List.mem_cons_self ..)) (hi p (List.mem_cons_self ..)) fun h2 e hs2 he => ?_)
      exact hE h2 e (fun c o hc x => hs2 _ _ (fun q => hc (by simp [q])) ((sb1.2 c fun q => hc (by simp [q])).trans x)) he
    | true =>
      simp only [if_true]
      refine wpAny_bind (wpAny_rule ?_)
      refine wpAny_bind (wpAny_field hz1 rfl (x := .ref TO) rfl ?_)
      refine wpAny_bind (wpAny_setField_rec hz1 (by simp) fun h1' hz1' sb1' => ?_)
      replace hz1' : h1'.get? z = some { cls := .type "zip", dict := none, data := .fields #[.ellipsis, g1, .bool false, .ref TI, .ref TO], slots := #[] } := hz1'
      replace sb1' : Heap.SameBut z h1 h1' := sb1'
      have M2 := M1.other sb1' S.zL
      show wpAny _ _ (forIn ((Value.ref p.1, 0) :: _) _ _ >>= _) _ _ _
      rw [List.forIn_cons]
      refine wpAny_bind (wpAny_bind (wpAny_bind (wpAny_onRaise ?_)))
      show wpAny _ _ (Builtin.SmallTypes.nextOf (.ref p.1) >>= _) _ _ _
      refine wpAny_bind (next_text_end (s := { s with heap := h1' }) hh (M2.rs p (List.mem_cons_self ..)) (hi p (List.mem_cons_self ..)) fun h2 e hs2 he => ?_)
      obtain ⟨oe, hoe, hce⟩ := he
      have hz₂ : h2.get? z = some { cls := .type "zip", dict := none, data := .fields #[.ellipsis, g1, .bool false, .ref TI, .ref TO], slots := #[] } := hs2 _ _ pz.symm hz1'
      have hez : e ≠ z := fun x => by subst x; rw [hz₂] at hoe; cases hoe; simp at hce
      refine wpAny_setField_rec hz₂ (by simp) fun h₃ _ hs₃ => hE h₃ e (fun c o hc x => ?_) ⟨oe, (hs₃.2 _ hez).trans hoe, hce⟩
      have cz : c ≠ z := fun q => hc (by simp [q])
      exact (hs₃.2 _ cz).trans (hs2 _ _ (fun q => hc (by simp [q])) ((sb1'.2 c cz).trans ((sb1.2 c cz).trans x)))
theorem pyNext_zipN {z TI TO : Addr} {L : List TIt} {i : Nat} {Q : Option Value → Shared → Prop} (hh : A.handled = none) (S : ZSep z TI TO L) (Z : ZipT s.heap z TI TO L i) (hne : L ≠ []) (h8 : L.length ≤ 8) (hi : ∀ p ∈ L, i < p.2.1.cps.size)
    (hQ : ∀ h' tk us, Vals (L.map (sgn i)) us → ZipT h' z TI TO L (i + 1) → h'.objs.size = s.heap.objs.size + 1 → h'.get? s.heap.objs.size = some { cls := .type "tuple", data := .seq us.toArray } →
      (∀ c o, c ∉ z :: TO :: addrs L → s.heap.get? c = some o → h'.get? c = some o) → Q (some (.ref s.heap.objs.size)) { s with heap := h', toks := tk }) :
    wpAny (model prog w) A (pyNext (.ref z)) Q E s := by
  obtain ⟨f0, f1, c0, c1, hz⟩ := Z.z
  have hTy : s.TypeIs (.ref z) "zip" := ⟨_, hz, rfl⟩
  unfold pyNext
  exact wpAny_bind (wpAny_attempt (wpAny_callSpecial?_slot (name := Str.ofString "__next__") hTy F.slot_zip_next
    (wpAny_call_entry F.slot_zip_next hTy F.entry_zip_next
      (zip_next hh S Z hne h8 hi fun h' tk us a1 a2 a3 a4 a5 => wpAny_pure (hQ h' tk us a1 a2 a3 a4 a5)) (F.args_zip_next_1 _))))
theorem pyNext_zipN_end {z TI TO : Addr} {L : List TIt} {i : Nat} {Q : Option Value → Shared → Prop} (hh : A.handled = none) (S : ZSep z TI TO L) (Z : ZipT s.heap z TI TO L i) (hne : L ≠ []) (hi : ∀ p ∈ L, i = p.2.1.cps.size)
    (hQ : ∀ h', (∀ c o, c ∉ z :: TO :: addrs L → s.heap.get? c = some o → h'.get? c = some o) → Q none { s with heap := h' }) : wpAny (model prog w) A (pyNext (.ref z)) Q E s := by
  obtain ⟨f0, f1, c0, c1, hz⟩ := Z.z
  have hT : s.TypeIs (.ref z) "zip" := ⟨_, hz, rfl⟩
  unfold pyNext
  refine wpAny_bind (wpAny_attempt (wpAny_callSpecial?_slot (name := Str.ofString "__next__") hT F.slot_zip_next
    (wpAny_call_entry F.slot_zip_next hT F.entry_zip_next (zip_end hh S Z hne hi fun h' e hk he => ?_) (F.args_zip_next_1 _))))
  obtain ⟨o, ho, hc⟩ := he
  refine wpAny_bind (wpAny_isInstance (T := "StopIteration") (b := true) ⟨o, ho, hc⟩ isSubtype_stop ?_)
  exact wpAny_pure (hQ _ hk)
end
/-- the columns of texts that are all m long -/
def ItZ (xs : List Str) (m : Nat) : It :=
  ⟨fun i _ => i < m, fun i H v H' => ∃ T, v = .ref T ∧ H T = none ∧ H' = upd H T (.tup (xs.map fun y => .str ⟨#[y.cps.getD i 0]⟩)), fun i _ => i = m⟩
theorem turn_zipN {P : Program} {w : World} {K : PySem.W.Frag} {x : Str} {tpos : Pos} {z TI TO : Addr} {L : List TIt} {xs : List Str} {m : Nat} (S : ZSep z TI TO L) (hne : L ≠ []) (h8 : L.length ≤ 8) (eL : L.map (·.2.1) = xs) (hm : ∀ p ∈ L, p.2.1.cps.size = m) :
    Turn P w K (.Name x tpos) (ItZ xs m) (z :: TI :: TO :: addrs L) z (fun i h => ZipT h z TI TO L i) where
  mem := by simp
  obj := fun i h st c hc => by
    obtain ⟨f0, f1, c0, c1, hz⟩ := st.z
    obtain ⟨io, sio, gio⟩ := st.to
    rcases List.mem_cons.1 hc with rfl | hc
    · exact ⟨_, hz, fun v q => nomatch q⟩
    rcases List.mem_cons.1 hc with rfl | hc
    · exact ⟨_, st.ti, fun v q => nomatch q⟩
    rcases List.mem_cons.1 hc with rfl | hc
    · exact ⟨_, gio, fun v q => nomatch q⟩
    obtain ⟨p, hp, rfl⟩ := List.mem_map.1 hc
    obtain ⟨o, e, _, d⟩ := st.its p hp
    exact ⟨o, e, fun v q => by rw [d] at q; cases q⟩
  keep := fun i h h' st k => by
    obtain ⟨f0, f1, c0, c1, hz⟩ := st.z
    obtain ⟨io, sio, gio⟩ := st.to
    exact ⟨⟨f0, f1, c0, c1, k z (by simp) _ hz⟩, k TI (by simp) _ st.ti, ⟨io, sio, k TO (by simp) _ gio⟩, fun p hp => (st.its p hp).at fun o e => k p.1 (by simp [addrs]; exact .inr (.inr (.inr ⟨_, _, hp⟩))) o e⟩
  item := by
    intro X hP hw hK hc i pins s σ H E I hf st hg
    subst hP hw hK
    refine pyNext_zipN (I.ok.hd hc) S st hne h8 (fun p hp => by rw [hm p hp]; exact hg) fun h' tk us rv Z' hsz hT hk => ⟨_, rfl, ?_⟩
    have sub : ∀ c, c ∉ z :: TI :: TO :: addrs L → c ∉ z :: TO :: addrs L := fun c n q => n (by
      rcases List.mem_cons.1 q with rfl | q
      · simp
      rcases List.mem_cons.1 q with rfl | q
      · simp
      · simp [q])
    have evs : L.map (sgn i) = xs.map fun y => V.str ⟨#[y.cps.getD i 0]⟩ := by rw [← eL, List.map_map]; rfl
    have ln : us.length ≤ 8 := by rw [← rv.length]; simpa using h8
    have new : ObjOk X.prog X.w (upd H s.heap.objs.size (.tup (xs.map fun y => V.str ⟨#[y.cps.getD i 0]⟩))) h' s.heap.objs.size (.tup (xs.map fun y => V.str ⟨#[y.cps.getD i 0]⟩)) :=
      ⟨by rw [← evs, rv.length]; unfold sizeLine; omega, us, by rw [← evs]; exact rv, ⟨_, hT, rfl, _, rfl⟩⟩
    have I1 : Inv X pins σ (upd H s.heap.objs.size (.tup (xs.map fun y => V.str ⟨#[y.cps.getD i 0]⟩))) { s with heap := h', toks := tk } :=
      I.turnedNew (t' := tk) (ch := z :: TI :: TO :: addrs L) (fun c o hb q => hk c o (sub c hb) q) hf (Nat.le_refl _) new
    refine wpAny_pure ⟨.ref s.heap.objs.size, _, I1, rfl, ⟨_, rfl, I.hok.fresh (Nat.le_refl _), rfl⟩, Z', fun c hcm => ?_⟩
    have hlt : c ≠ s.heap.objs.size := fun e => by
      have q := hf c hcm
      obtain ⟨f0, f1, c0, c1, hz⟩ := st.z
      obtain ⟨io, sio, gio⟩ := st.to
      have : c < s.heap.objs.size := by
        rcases List.mem_cons.1 hcm with rfl | hcm
        · exact Heap.lt_size hz
        rcases List.mem_cons.1 hcm with rfl | hcm
        · exact Heap.lt_size st.ti
        rcases List.mem_cons.1 hcm with rfl | hcm
        · exact Heap.lt_size gio
        obtain ⟨p, hp, rfl⟩ := List.mem_map.1 hcm
        obtain ⟨o, e, _⟩ := st.its p hp
        exact Heap.lt_size e
      exact absurd this (by rw [e]; exact Nat.lt_irrefl _)
    rw [upd_ne hlt]
    exact (hf c hcm).1
  done := by
    intro X hP hw hK hc i pins s σ H E I hf st hg
    subst hP hw hK
    refine pyNext_zipN_end (I.ok.hd hc) S st hne (fun p hp => by rw [hm p hp]; exact hg) fun h' hk => ⟨rfl, I.turnedL (t' := s.toks) (ch := z :: TI :: TO :: addrs L) (fun c o hb q => hk c o (fun q' => hb ?_) q) hf⟩
    rcases List.mem_cons.1 q' with rfl | q'
    · simp
    rcases List.mem_cons.1 q' with rfl | q'
    · simp
    · simp [q']
  self := fun A i s Q E st h => by
    obtain ⟨f0, f1, c0, c1, hz⟩ := st.z
    have hT : s.TypeIs (.ref z) "zip" := ⟨_, hz, rfl⟩
    refine wpAny_pyIter_slot hT F.slot_zip_iter (wpAny_call_entry F.slot_zip_iter hT F.entry_zip_iter ?_ (F.args_zip_iter_1 _))
    show wpAny _ _ (ret (.ref z)) _ _ s
    exact wpAny_pure ⟨_, rfl, "zip", _, hT, F.slot_zip_next.lookup, h⟩
def iZipN (K : PySem.W.Frag) (te : TE) : TI := fun σ H R => te σ H fun v H1 => ∃ a xs m, v = .ref a ∧ SqT K H1 a (xs.map V.str) ∧ xs ≠ [] ∧ xs.length ≤ 8 ∧ (∀ x ∈ xs, x.cps.size = m) ∧ R (ItZ xs m) H1
theorem vals_strs : ∀ {xs : List Str} {us : List Value}, Vals (xs.map V.str) us → ∃ ps : List (Str × Tok), us = strVs ps ∧ ps.map (·.1) = xs
  | [], _, .nil => ⟨[], rfl, rfl⟩
  | x :: xs, _, .cons r rr => by
    obtain ⟨t, rfl⟩ := r
    obtain ⟨ps, rfl, rfl⟩ := vals_strs rr
    exact ⟨(x, t) :: ps, rfl, rfl⟩
theorem pi_zipN {X : Cx} {e : Expr} {te : TE} {p sp_ pos tpos : Pos} {x : Str} (hg : Gl X "zip") (hm : X.mg "zip" = none) (he : PE X e te) (hst : starEach [.Starred e sp_] X.env = [(true, eval e X.env)] := by rfl) :
    PI X (.Name x tpos) (.Call (.Name "zip" p) [.Starred e sp_] [] pos) (iZipN X.K te) := by
  refine ⟨fun pins s σ H R I h => ?_⟩
  refine Call_ (ld_blt I hg hm PyProof.Rows.boot_zip ?_)
  rw [hst]
  refine PySem.W.ks_call (P := fun _ => True) rfl (fun h _ => ⟨.machine, .inr (.inl rfl), PySem.W.Looks.of_pure rfl⟩) (PySem.W.ks_lone (thn (he.run pins s σ H _ I h) fun v s1 ⟨y, H1, I1, ry, a, xs, m, ey, hx, hne, h8, hmm, q⟩ => ?_))
  subst ey
  obtain rfl : v = Value.ref a := ry
  refine StX.star_any I1 (.inl hx) fun us s2 I2 rv => ⟨trivial, ?_⟩
  obtain ⟨ps, rfl, eps⟩ := vals_strs rv
  refine call_zipN (xs := ps) (by rw [← eps] at h8; simpa using h8) fun h' L z TI TO eL Z S bd kp => ?_
  have I3 : Inv X pins σ H1 { s2 with heap := h' } := I2.kept (t' := s2.toks) kp
  have exs : L.map (·.2.1) = xs := by rw [← eps, ← eL, List.map_map]; rfl
  have hT := turn_zipN (P := X.prog) (w := X.w) (K := X.K) (x := x) (tpos := tpos) (m := m) S (by rintro rfl; exact hne exs.symm) (by rw [← exs] at h8; simpa using h8) exs (fun p hp => hmm _ (by rw [← exs]; exact List.mem_map_of_mem (f := fun q : TIt => q.2.1) hp))
  refine hT.self _ 0 _ _ _ Z ⟨z, z :: TI :: TO :: addrs L, _, _, H1, rfl, I3, hT, Z, fun c hc => I2.fpOk (bd c hc) (I2.hok.fresh (bd c hc)), q⟩
/-- the columns of texts of one length -/
def zipD : List Str → Option (List PyData)
  | [] => none
  | x :: xs => if xs.length ≤ 7 ∧ ∀ y ∈ xs, y.cps.size = x.cps.size then some ((List.range x.cps.size).map fun i => .tuple ((x :: xs).map fun y => .str ⟨#[y.cps.getD i 0]⟩)) else none
def mItZ (me : ME) : MI := fun S => (me S).bind fun w S1 => RE.of ((wt w).bind fun ds => (strsD ds).bind zipD) S1
theorem rpAll_strs {K : PySem.W.Frag} {G : Hp} : ∀ xs : List Str, RpAll K G (xs.map V.str) (xs.map PyData.str)
  | [] => .nil
  | x :: xs => .cons (.str x) (rpAll_strs xs)
theorem walks_zip {C : Cn} {mu ow : List Addr} {H : Hp} {xs : List Str} {ds : List PyData} (m : Nat) (h : ds = (List.range m).map fun i => .tuple (xs.map fun y => .str ⟨#[y.cps.getD i 0]⟩)) : WalksD C.K mu ow H (ItZ xs m) ds where
  stop := fun H' p => by simp [h, ItZ]
  go := fun i H' hi p => by simpa [h, ItZ] using hi
  yld := fun i H' v H'' hi p y => by
    obtain ⟨T, rfl, hT, rfl⟩ := y
    refine ⟨.tuple (xs.map fun y => .str ⟨#[y.cps.getD i 0]⟩), ?_, sub_upd hT, fun ow2 g t => ?_⟩
    · have : i < m := by simpa [h] using hi
      simp [h, this]
    · have nT : T ∉ ow2 := fun q => by obtain ⟨o, e, _⟩ := t T q; rw [hT] at e; cases e
      refine .tup (.inl (.inl (hid_at nT upd_same))) ?_
      have := rpAll_strs (K := C.K) (G := hid ow2 (upd H' T (.tup (xs.map fun y => .str ⟨#[y.cps.getD i 0]⟩)))) (xs.map fun y => ⟨#[y.cps.getD i 0]⟩)
      rw [List.map_map, List.map_map] at this
      exact this
theorem ji_zipS {C : Cn} {Wx : WX} {X : Cx} {e : Expr} {me : ME} {x : Str} {tpos : Pos} {p q pos : Pos} (hx : Hx C X) (he : JE C Wx X e me) (gl : Gl X "zip") (ml : X.mg "zip" = none) : JI C Wx X (.Name x tpos) (.Call (.Name "zip" p) [.Starred e q] [] pos) (mItZ me) where
  pi := by
    have := pi_zipN (x := x) (tpos := tpos) (p := p) (sp_ := q) (pos := pos) gl ml he.pe
    refine ⟨fun pins s σ H Rr I ⟨ow, mu, S, R, q⟩ => this.run pins s σ H Rr I ⟨ow, mu, S, R, Post.bind R.sub q fun w S1 v H1 ow1 e1 g1 p1 R1 k1 h1 => ?_⟩⟩
    obtain ⟨ds, e2, h2⟩ := Post.ofG h1
    cases et : wt w with
    | none => rw [et] at e2; cases e2
    | some ts =>
      rw [et] at e2
      change (strsD ts).bind zipD = some ds at e2
      cases es : strsD ts with
      | none => rw [es] at e2; cases e2
      | some xs =>
        rw [es] at e2
        change zipD xs = some ds at e2
        obtain ⟨a, vs, rfl, ha, ra⟩ := wt_ok k1.1 et
        cases xs with
        | nil => cases e2
        | cons y ys =>
          by_cases hc : ys.length ≤ 7 ∧ ∀ z ∈ ys, z.cps.size = y.cps.size
          · rw [zipD, if_pos hc] at e2
            have evs : vs = (y :: ys).map V.str := strsD_inv es ra
            subst evs
            rw [hx.hK]
            refine ⟨a, y :: ys, y.cps.size, rfl, sqT_sub hid_sub ha, by simp, by simpa using hc.1, fun t ht => ?_, h2.now R1 (walks_zip _ (Option.some.inj e2).symm)⟩
            rcases List.mem_cons.1 ht with rfl | ht
            · rfl
            · exact hc.2 t ht
          · rw [zipD, if_neg hc] at e2; cases e2
  shp := shp_bind he.shp fun _ => shp_of
end Vf

set_option Elab.async false
set_option linter.all false
set_option maxRecDepth 100000
set_option maxHeartbeats 1000000
/-! Vf24: the head's facts, read by names. -/
namespace Vf
open PySem PySem.Spec PyProof.Rows L2

/-- as walk_ofG, the part of the heap a choice of the proof -/
theorem walk_ofE {l : PySem.W.OpenLaw} {n k : Nat} {q : Program} {loose : List Str} {XP : (Str → Option Value) → Heap → Prop} {YP : World → Heap → Prop} {d : DefRec} {x : Str}
    (most : l.most = some n) (small : n ≤ sizeLine) (noDef : d.params.defaults = []) (room : Room k callerA)
    (F : ∀ (w : World) (mg : Str → Option Value) (fa : Addr) (h : Heap), YP w h → h.Ns mainGlobals mg → mg d.name = some (.ref fa) →
      ∃ (K : PySem.W.Frag) (fd : FuncData) (ts : List (Addr × Addr)) (sp : Sp), K.In h ∧ (∀ p ∈ ts, h.get? p.2 = some { cls := .none, data := .fields #[] }) ∧ (∀ p ∈ ts, K.lookup p.2 = none) ∧ (∀ p ∈ ts, PySem.W.CodeHd h p.1 p.2) ∧ (∀ (s : Shared) (u : Value), BindsTo s fd ⟨[u], []⟩ [(x, u)]) ∧
        (∀ (H : Hp) (a : Addr) (ns : List Int), ns.length ≤ n → (∀ z ∈ ns, Builtin.Int.intBits z ≤ 1048576) → (∀ p ∈ ts, H p.2 = some (.tbl #[])) → SqL K H a (ns.map V.int) → sp [.ref a] H (fun v _ => v = .bl true) fun _ _ _ => False) ∧
        ∀ base : Heap, K.In base → base.Ns mainGlobals mg → (∀ p ∈ ts, LamX.TabB base mg p.1 p.2) → FnG l.prog w K mg base (L2.CX l.prog w) k fa fd [x] sp) :
    PySem.W.WalkO q loose XP YP l.row.toRowW d [] (fun f us => PySem.call f us) := by
  refine Att.attach_callB most noDef ?_
  intro w t0 t1 mg mb fa o pm cd doc a us ns G Y _ _ _ named lay areInts few bits noGen
  obtain ⟨K, fd, ts, sp, inH, tab, notK, code, binds, want, promise⟩ := F w mg fa _ Y G.T.g named
  have T : Top K mg mb ts t1 a us := ⟨inH, G.T.g, G.T.b, G.T.builtins, G.T.nolimit, noGen, tab, notK, code, G.T.bmain, lay⟩
  exact law_callG T areInts (Nat.le_trans few small) room promise binds (fun H e seen => want H a ns few bits e seen) fun H e t z => cx_never z
theorem fun_ofD {K : PySem.W.Frag} {x : Str} {st : Stmt} {f : Addr} {fd : FuncData} (F : FunD K x x (defArgs st) (defBody st) (defScope st) [] [] f fd) : Fun K x x st f fd := by
  obtain ⟨oc, od, dV, kV, doc, pm, an, cdv, ct, osl, e, lk, hcd, hD, _⟩ := F.ex
  rcases hD with ⟨_, rfl⟩ | ⟨z, _⟩
  · exact ⟨⟨oc, od, kV, doc, pm, an, cdv, ct, osl, e, lk, hcd⟩, F.kp⟩
  · exact absurd rfl z
/-- a def of the module, as the head's look tells it -/
def dfn (x : Str) (st : Stmt) : He.DefD := ⟨(x, none), x, x, defArgs st, defBody st, defScope st, [], []⟩
theorem defOk {K : PySem.W.Frag} {h : Heap} {mg : Str → Option Value} {fa : List He.Fa} {fn : List He.DefD} (X : K.In h) (G : h.Ns mainGlobals mg) (c : He.SaysD fa fn K) {x : Str} {st : Stmt} {ps : List Str} (hg : He.Fa.glo x ∈ fa) (hd : dfn x st ∈ fn)
    (hb : ∀ (kV doc pm : Value) (an : Option Addr) (cdv ct : Value) (us : List Value), us.length = ps.length → bindArgs (PySem.W.fnOf x x (defArgs st) (defBody st) (defScope st) .none kV doc pm an cdv ct) ⟨us, []⟩ = pure (ps.zip us)) :
    ∃ fd, DefOk K mg x st ps (He.ga K x) fd ∧ (∀ (s : Shared) (us : List Value), us.length = ps.length → BindsTo s fd ⟨us, []⟩ (ps.zip us)) ∧ ∃ c, fd.code = .ref c ∧ He.codeOf K (x, none) = c := by
  obtain ⟨fd, F⟩ := c.defs hd
  replace F : FunD K x x (defArgs st) (defBody st) (defScope st) [] [] (He.ga K x) fd := F
  refine ⟨fd, ⟨fun_ofD F, He.glo_ok X G (c.facts hg), F.kp, F.bindsN hb⟩, F.bindsA hb, ?_⟩
  obtain ⟨oc, od, dV, kV, doc, pm, an, cdv, ct, osl, e, lk, hcd, hD, _⟩ := F.ex
  obtain ⟨cc, rfl⟩ := He.codeIn_ref hcd
  subst e
  exact ⟨cc, rfl, He.codeOf_eq (K := K) (p := (x, none)) lk rfl⟩
/-- what isinstance and its kin ask of a class -/
def excB (K : PySem.W.Frag) (D : Addr) : Bool :=
  decide (PySem.W.findIn K (.ref D) "__getattribute__" = some (some (.builtin "BaseException.__getattribute__"))) && decide (PySem.W.findIn K (.ref D) "__getattr__" = some none) && decide (PySem.W.subIn K (.ref D) (.type "BaseException") = some true) && PySem.W.hasDictIn K D &&
  decide (PySem.W.findIn K (.ref D) "__class__" = some (some (.builtin "object.__class__"))) && decide (PySem.W.specialIn K (.builtin "object.__class__") "__get__" = some (some (.builtin "getset_descriptor.__get__"))) && decide (PySem.W.takesIn K (.builtin "object.__class__") = some true) && decide (PySem.W.mroIn K D (.type "object") = some true)
theorem excB_ok {K : PySem.W.Frag} {D : Addr} (h : excB K D = true) : ExcC K D := by
  unfold excB at h
  simp only [Bool.and_eq_true, decide_eq_true_eq] at h
  obtain ⟨⟨⟨⟨⟨⟨⟨h1, h2⟩, h3⟩, h4⟩, h5⟩, h6⟩, h7⟩, h8⟩ := h
  exact ⟨h1, h2, h3, h4, h5, h6, h7, h8⟩
/-- the classes by number -/
def clsOf (K : PySem.W.Frag) (xs : List Str) (i : Nat) : Addr := He.ga K (xs.getD i "")
def subK (n : Nat) : Nat → Nat → Option Bool := fun c d => if c < n ∧ d < n then some (c == d || d == 0) else none
def kitB (xs : List Str) (K : PySem.W.Frag) : Bool := (List.range xs.length).all fun c => excB K (clsOf K xs c) && (List.range xs.length).all fun d => decide (PySem.W.kitOne K (.ref (clsOf K xs c)) (.ref (clsOf K xs d)) = some (c == d || d == 0))
theorem kit_ok {K : PySem.W.Frag} {xs : List Str} (h : kitB xs K = true) : KitOf K (clsOf K xs) (subK xs.length) := by
  intro c d b e
  unfold subK at e
  split at e
  · rename_i hc
    cases e
    have h1 := List.all_eq_true.mp h c (List.mem_range.mpr hc.1)
    obtain ⟨h2, h3⟩ := He.ba h1
    exact ⟨excB_ok h2, of_decide_eq_true (List.all_eq_true.mp h3 d (List.mem_range.mpr hc.2))⟩
  · cases e
/-- the tables of the defs with lambdas lie apart -/
def aptB (tf : List He.Defn) (K : PySem.W.Frag) : Bool := decide ((tf.map fun p => (He.cT K p).2).Nodup)
theorem nodup_inj {α β : Type} {f : α → β} : ∀ {l : List α}, (l.map f).Nodup → ∀ {a b : α}, a ∈ l → b ∈ l → f a = f b → a = b
  | [], _, _, _, h, _, _ => nomatch h
  | x :: l, nd, a, b, ha, hb, e => by
    rw [List.map_cons, List.nodup_cons] at nd
    rcases List.mem_cons.1 ha with z1 | z1
    · rcases List.mem_cons.1 hb with z2 | z2
      · rw [z1, z2]
      · exact (nd.1 (by rw [← z1, e]; exact List.mem_map_of_mem z2)).elim
    · rcases List.mem_cons.1 hb with z2 | z2
      · exact (nd.1 (by rw [← z2, ← e]; exact List.mem_map_of_mem z1)).elim
      · exact nodup_inj nd.2 z1 z2 e
/-- the tables and whose lambdas they are -/
def tabT (tf : List He.Defn) (K : PySem.W.Frag) : List (Addr × Str) := tf.map fun p => ((He.cT K p).2, p.1 ++ (".<locals>." : Str) ++ "<lambda>")
theorem lamD {K : PySem.W.Frag} {base : Heap} {mg : Str → Option Value} {tf : List He.Defn} {x : Str} {fd : FuncData} {cc : Addr} (ap : aptB tf K = true) (hm : (x, none) ∈ tf) (e : fd.code = .ref cc) (ec : He.codeOf K (x, none) = cc)
    (tb : ∀ p ∈ tf.map (He.cT K), LamX.TabB base mg p.1 p.2) : LamD base mg (tabT tf K) x fd (He.cT K (x, none)).1 (He.cT K (x, none)).2 where
  tb := tb _ (List.mem_map_of_mem hm)
  code := by rw [e, ← ec]; rfl
  mem := List.mem_map.mpr ⟨(x, none), hm, rfl⟩
  one := fun p hp q => by
    obtain ⟨d, hd, rfl⟩ := List.mem_map.1 hp
    have : d = (x, none) := nodup_inj (of_decide_eq_true ap) hd hm q
    rw [this]
theorem tabs0 {K : PySem.W.Frag} {tf : List He.Defn} {H : Hp} (h : ∀ p ∈ tf.map (He.cT K), H p.2 = some (.tbl #[])) : LamX.Tabs (tabT tf K) H := fun p hp => by
  obtain ⟨d, hd, rfl⟩ := List.mem_map.1 hp
  have := h _ (List.mem_map_of_mem hd)
  exact ⟨#[], this, by trivial, fun _ _ e => nomatch e⟩
end Vf

set_option Elab.async false
set_option linter.all false
set_option maxRecDepth 100000
set_option maxHeartbeats 1000000
/-! Vf25: errors whose class has an __init__ of its own. -/
namespace Vf
open PySem PySem.Spec PyProof.Rows L2
section
variable {X : Cx} {x : Str} {e : Expr} {es : List Expr} {ta : TA} {p1 p2 pos : Pos} {mc : Value} {D : Addr}
/-- D.__init__(self, ..), D a class of the text's own that has none of its own -/
theorem pe_xinit {pl : Sem Bool} (hg : Gl X x) (hm : X.mg x = some (.ref D)) (hga : PySem.W.specialIn X.K (.ref D) "__getattribute__" = some (some (.builtin "type.__getattribute__"))) (hty : PySem.W.typeIn X.K (.ref D) = some mc)
    (hrd : PySem.W.readsIn X.K D mc = true) (hv : PySem.W.findCls X.K (.ref D) mc "__init__" = some (.val (.builtin "ValueError.__init__"))) (ha : PA X (e :: es) ta)
    (hdb : (x == ("__debug__" : Str)) = false := by decide)
    (hc : eval (.Call (.Attribute (.Name x p1) "__init__" p2) (e :: es) [] pos) X.env = (do
      let ov ← eval (.Name x p1) X.env
      standAt p2.atName
      let (f, fs) ← holding [ov] (getMethod ov "__init__" pl)
      callWith pos f fs (backTo pos (starEach (e :: es) X.env)) (backToKw pos (keywordEach [] X.env))) := by rfl)
    (he : starEach (e :: es) X.env = (false, eval e X.env) :: starEach es X.env := by rfl) (hpl : (backTo pos (starEach es X.env)).any (·.1) = false := by rfl) :
    PE X (.Call (.Attribute (.Name x p1) "__init__" p2) (e :: es) [] pos) (tVeI X.K ta) := by
  refine ⟨fun pins s σ H Q I h => PySem.W.methodCall_KW (ld_glob I hg hm ?_ hdb) hc⟩
  obtain ⟨m, fr⟩ := I.fr
  refine PySem.W.method_of_cls fr I.ok.mod.kin hga (PySem.W.cls_val fr I.ok.mod.kin hty hrd hv (by decide +kernel) ?_)
  refine PyProof.Rows.callWith_method1 (thn (ha.run pos pins _ σ H _ (I.tok _) h) fun us s1 ⟨vs, H1, I1, r1, a, C, ws, ev, hl, T, ea, q⟩ => ?_) he hpl
  subst ev
  cases r1 with
  | @cons _ u0 _ ur ra rw' =>
    cases (show u0 = Value.ref a from ra)
    exact oinit_ok T I1 ea (by rw [← Paired.length rw', sizeLine_eq]; omega) fun s' J => ⟨.non, H1, J, rfl, q⟩
end
/-- what an __init__ does that keeps a line: an error of the class D is at a, its own dict is new -/
def spLine (K : PySem.W.Frag) (D : Addr) : Sp := fun vs H Q _ => ∃ (a : Addr) (n : Int), vs = [.ref a, .int n] ∧ n.natAbs.log2 < 1920 ∧ OexC K D ∧ PySem.W.findIn K (.ref D) "line" = some none ∧ H a = some (exo a D none) ∧
  ∀ dx, H dx = none → dx ≠ a → Q .non (upd (upd H dx (exd dx [(("line" : Str), .int n)])) a (exo a D (some dx)))
theorem join_len (a b : Str) : (a ++ b).length = a.length + b.length := by
  show (a ++ b).cps.size = _
  rw [show (a ++ b).cps = a.cps ++ b.cps from rfl, Array.size_append]
  rfl
theorem int_len {n : Int} (h : n.natAbs.log2 < 1920) : (Str.ofString (toString n)).length ≤ 1921 := by
  rw [PySem.ofString_length]
  exact int_text_length_le (by decide) h
theorem fits3 {n : Int} {s t : Str} (h : n.natAbs.log2 < 1920) (hs : s.length ≤ 1000) (ht : t.length ≤ 1000) : (Str.empty ++ s).length ≤ sizeLine ∧ (Str.empty ++ s ++ Str.ofString (toString n)).length ≤ sizeLine ∧ (Str.empty ++ s ++ Str.ofString (toString n) ++ t).length ≤ sizeLine := by
  have e := int_len h
  have z : Str.empty.length = 0 := rfl
  rw [join_len, join_len, join_len, join_len, join_len, join_len, z, sizeLine_eq]
  omega
end Vf

set_option Elab.async false
set_option linter.all false
set_option maxRecDepth 100000
set_option maxHeartbeats 1000000
/-! Vf26: an error with a line is raised. -/
namespace Vf
open PySem PySem.Spec PyProof.Rows L2
/-- raise D(e), D's __init__ keeps e as line -/
def mRaiseL (c : Nat) (me : ME) : MS := fun S => (me S).go fun w S1 => match w with
  | .d (.int n) => if n.natAbs.log2 < 1920 then .ex c (some n) S1 else .bad
  | _ => .bad
/-- a class of errors whose __init__ keeps a line -/
structure ClsL (P : Program) (w : World) (K : PySem.W.Frag) (mg : Str → Option Value) (base : Heap) (x : Str) (D : Addr) : Prop where
  T : OexC K D
  g : mg x = some (.ref D)
  no : PySem.W.findIn K (.ref D) "line" = some none
  ini : ∃ (fI : Addr) (fd : FuncData), PySem.W.findIn K (.ref D) "__init__" = some (some (.ref fI)) ∧ PySem.W.typeIn K (.ref fI) = some (.type "function") ∧ Binds K fd ["self", "line"] [] ∧ FnOk P w K mg base (L2.CX P w) 1 fI fd ["self", "line"] (spLine K D)
section
variable {C : Cn} {Wx : WX} {X : Cx} {x : Str} {e : Expr} {me : ME} {p1 pos pos2 : Pos}
theorem trk_grow {ow : List Addr} {H H' : Hp} (t : Trk ow H) (p : Sub H H') : Trk ow H' := fun b hb => by
  obtain ⟨o, h, n⟩ := t b hb
  exact ⟨o, p b o h, n⟩
theorem sub_new {H : Hp} {a : Addr} {o : HO} (h : H a = none) : Sub H (upd H a o) := fun b u hb => by
  rw [upd_ne (show b ≠ a from fun z => by rw [z, h] at hb; cases hb)]
  exact hb
theorem made_heap {H : Hp} {a dx : Addr} {D : Addr} {o u : HO} (ha : H a = none) (ne : dx ≠ a) : upd (del (upd (upd (upd H a (exo a D none)) dx o) a (exo a D (some dx))) a) dx u = upd H dx u := by
  funext b
  by_cases h1 : b = dx
  · rw [h1, upd_same, upd_same]
  · rw [upd_ne h1, upd_ne h1]
    by_cases h2 : b = a
    · rw [h2, del_same, ha]
    · rw [del_ne h2, upd_ne h2, upd_ne h1, upd_ne h2]
theorem js_raiseL {c : Nat} (hx : Hx C X) (tk : Takes X Wx) (L : ClsL X.prog X.w X.K X.mg X.base x (C.cls c)) (hr : Room 2 X.A) (he : JE C Wx X e me)
    (hg : Gl X x := by rfl) (hdb : (x == ("__debug__" : Str)) = false := by decide) (hs : starEach [e] X.env = [(false, eval e X.env)] := by rfl) : JS C Wx X (.Raise (some (.Call (.Name x p1) [e] [] pos2)) none pos) (mRaiseL c me) := by
  obtain ⟨fI, fd, iC, tI, hb, F1⟩ := L.ini
  refine (ps_raise hx.calm tk (pmk_oex (ds := []) (dvs := []) L.T iC tI F1 hr hb .nil (passes_call tk fun _ _ _ _ z => z.elim) hg L.g (pa_cons he.pe pa_nil hs) hdb hs)).weak fun D σ H ⟨ow, mu, S, R, q⟩ => ?_
  refine ⟨ow, mu, S, R, Post.go R.sub q fun w S1 v H1 ow1 e1 g1 p1 R1 k1 q1 => ⟨(show 1 ≤ 1000 by decide), fun a ha => ?_⟩⟩
  cases w with
  | d d =>
    cases d with
    | int n =>
      replace q1 : PostS C Wx ow mu H (if n.natAbs.log2 < 1920 then .ex c (some n) S1 else .bad) D := q1
      by_cases hn : n.natAbs.log2 < 1920
      · rw [if_pos hn] at q1
        have ev : v = .int n := Rp.int_inv k1.1
        subst ev
        refine ⟨a, n, rfl, hn, L.T, L.no, upd_same, fun dx hd ne => ⟨rfl, dx, [(("line" : Str), .int n)], upd_same, ?_, ?_, ?_⟩⟩
        · rw [upd_ne ne, upd_same]
        · rw [upd_ne ne] at hd
          exact hd
        · rw [upd_ne ne] at hd
          rw [made_heap ha ne]
          have sb := sub_new (o := .xd [(("line" : Str), .int n)]) hd
          have R2 : Rel C ow mu σ H1 S1 := R1.less g1.1 R.sub R.paH R.gro.1
          exact q1 ow mu σ _ _ _ (PresS.of (Grow.refl _ _) (p1.trans (Pres.of sb))) (R2.grow sb (Grow.refl _ _) (trk_grow R2.trk sb)) ⟨rfl, dx, rfl, hid_at (fun z => by obtain ⟨o, e, _⟩ := R2.trk dx z; rw [hd] at e; cases e) upd_same⟩
      · rw [if_neg hn] at q1
        exact q1.elim
    | _ => exact q1.elim
  | _ => exact q1.elim
end
end Vf

set_option Elab.async false
set_option linter.all false
set_option maxRecDepth 100000
set_option maxHeartbeats 1000000
/-! Vf27: the line of an error that is held. -/
namespace Vf
open PySem PySem.Spec PyProof.Rows L2
/-- e.f, e an error on the abstract heap that has a dict of its own -/
def tXl (D : Addr) (f : Str) (te : TE) : TE := fun σ H Q => te σ H fun x H1 => ∃ (a dd : Addr) (φ : Heap → Prop) (fs : List (Str × V)) (v : V), x = .ref a ∧ H1 a = some (.ext φ) ∧
  (∀ h, φ h → ∃ (oe : Obj) (vs : Array Value), h.get? a = some oe ∧ Zc (.ref D) (some dd) oe ∧ oe.data = .fields vs) ∧ H1 dd = some (.xd fs) ∧ fs.lookup f = some v ∧ Q v H1
theorem pe_xl {X : Cx} {D : Addr} {e : Expr} {te : TE} {pos : Pos} {f : Str} (T : XfC X.K D) (no : PySem.W.findIn X.K (.ref D) f = some none) (he : PE X e te) (hb : attributeBase e f X.env (eval e X.env) = eval e X.env := by rfl) : PE X (.Attribute e f pos) (tXl D f te) := by
  refine ⟨fun pins s σ H Q I h => attr_of hb (thn (he.run pins s σ H _ I h) fun u s1 ⟨x, H1, I1, rx, a, dd, φ, fs, v, ex, ea, hφ, ed, el, q⟩ => ?_)⟩
  subst ex
  cases (show u = Value.ref a from rx)
  obtain ⟨oe, vs, g, z, dv⟩ := hφ _ (I1.hok a _ ea).1
  have od := I1.hok dd _ ed
  obtain ⟨mA, hns, rel⟩ := (show ObjOk X.prog X.w H1 s1.heap dd (.xd fs) from od)
  obtain ⟨oo, ho, lk⟩ := lookIn_ns hns
  obtain ⟨u, hu, ru⟩ := RelO.some_of (v := v) (o := mA f) (by rw [← el]; exact rel f)
  refine HandSPX.exc_get I1.kIn (⟨g, z.1, ?_, by rw [z.2]; exact ho⟩ : PySem.W.InstAt s1.heap a oe D (some oo)) T.ga T.gg T.exC (PySem.W.findObj_own T.hdC no rfl (by rw [lk, hu])) (handed_of ru) ⟨v, H1, I1.tok _, ru, q⟩
  unfold PySem.W.notCls
  rw [dv] <;> rfl
def gLine (c0 : Nat) : Sx → W → Option W := fun _ w => match w with
  | .exc c (some n) => if c = c0 then some (.d (.int n)) else none
  | _ => none
section
variable {C : Cn} {Wx : WX} {X : Cx} {e : Expr} {me : ME} {pos : Pos}
theorem je_line {c0 : Nat} (hx : Hx C X) (T : XfC C.K (C.cls c0)) (no : PySem.W.findIn C.K (.ref (C.cls c0)) "line" = some none) (he : JE C Wx X e me) (hb : attributeBase e "line" X.env (eval e X.env) = eval e X.env := by rfl) : JE C Wx X (.Attribute e "line" pos) (mUn (gLine c0) me) where
  pe := (pe_xl (D := C.cls c0) (by rw [hx.hK]; exact T) (by rw [hx.hK]; exact no) he.pe hb).weak fun σ H Q ⟨ow, mu, S, R, h⟩ => by
    refine ⟨ow, mu, S, R, Post.bind R.sub h fun w S1 v1 H1 ow1 e1 g1 p1 R1 k1 h1 => ?_⟩
    obtain ⟨z, e3, h3⟩ := Post.of h1
    unfold gLine at e3
    split at e3
    · rename_i c n
      split at e3
      · rename_i hc
        subst hc
        cases e3
        obtain ⟨a, rfl, φ, d, a1, a2, dd, rfl, ed⟩ := k1.1
        exact ⟨a, dd, φ, _, .int n, rfl, hid_sub _ _ a1, a2, hid_sub _ _ ed, rfl, h3.now R1 ⟨.int _, WNew.d⟩⟩
      · cases e3
    · cases e3
  shp := shp_un he.shp
end
end Vf

set_option Elab.async false
set_option linter.all false
set_option maxRecDepth 100000
set_option maxHeartbeats 4000000
/-! Vf28: isinstance of an error that has a dict of its own. -/
namespace Vf
open PySem PySem.Spec PyProof.Rows L2 PySem.W
section
variable {prog : Program} {w : World} {A : Around} {E : Value → Shared → Prop} {s : Shared} {K : Frag} {x D : Addr} {ox : Obj} {od : Option Obj}
theorem findObj_class (C : ExcC K D) : findObj K D od "__class__" = some (.bind (.builtin "getset_descriptor.__get__") (.builtin "object.__class__")) := by
  obtain ⟨cd, hc, _⟩ := any_some C.hd
  unfold findObj
  rw [hc, Option.bind_some, C.ha, Option.bind_some]
  simp [C.hn, C.ht]
theorem class_of {Q : Option Value → Shared → Prop} (C : ExcC K D) (In : K.In s.heap) (I : InstAt s.heap x ox D od) (h : Q (some (.ref D)) { s with toks := s.toks + 1 }) : wpAny (model prog w) A (getAttr? (.ref x) "__class__") Q E s := by
  have hf := findObj_class (od := od) C
  obtain ⟨hp, g, d, t, os⟩ := s
  have l0 := I.type (M := model prog w)
  have l1 := looks_findIn (M := model prog w) In C.hg
  have l2 := looks_findIn (M := model prog w) In C.hk
  have l3 := looks_find (M := model prog w) In I hf
  have ls : Looks (model prog w) hp (isInstance (.ref x) (.type "BaseException")) true := l0.andThen (looks_subIn In C.hs)
  have ne : (Value.builtin "BaseException.__getattribute__" == Value.builtin "object.__getattribute__") = false := by decide +kernel
  have b1 : (onTheHeap (Value.ref D) && Value.builtin "BaseException.__getattribute__" == Value.builtin "object.__getattribute__") = false := by rw [ne]; rfl
  unfold getAttr? getAttrBy? getAttrBy
  refine wpAny_bind (wpAny_mkText (wpAny_bind (wpAny_attempt (wpAny_holding (wpAny_bind (l0.at (wpAny_bind (l1.at ?goal))))))))
  case goal =>
    show wpAny _ _ (if (onTheHeap (Value.ref D) && Value.builtin "BaseException.__getattribute__" == Value.builtin "object.__getattribute__") = true then _ else _) _ _ _
    rw [b1, if_neg Bool.false_ne_true]
    unfold getAttrByItsOwn hookBefore
    refine wpAny_bind ?g1
    case g1 =>
      rw [if_pos (show onTheHeap (Value.ref D) = true from rfl)]
      refine l2.at (wpAny_bind (wpAny_attempt (wpAny_holding ?g2)))
      case g2 =>
        unfold callGetattribute
        rw [show (false && onTheHeap (Value.builtin "BaseException.__getattribute__")) = false from rfl, if_neg Bool.false_ne_true]
        unfold boundAndCalled
        rw [PySem.F.excAttr_ValueError.ga.bind (.ref x)]
        refine wpAny_bind (wpAny_pure ?g3)
        case g3 =>
          show wpAny _ _ (call (.builtin "BaseException.__getattribute__") [.ref x, .str "__class__" t]) _ _ _
          refine wpAny_call (codeAny_call_builtin PySem.F.excAttr_ValueError.ga.plain PySem.F.entry_bexc_ga (@check_slot (model prog w) _ _ ⟨hp, g, d, t + 1, os⟩ "BaseException.__getattribute__" "BaseException" "__getattribute__" (.ref x) [.str "__class__" t] [] _ (by decide +kernel) (by decide +kernel) ls (PySem.F.args_bexc_ga (.ref x) (.str "__class__" t)) ?g4))
          case g4 =>
            unfold Builtin.«object.__getattribute__»
            refine wpAny_bind (wpAny_of_eq (a := ((Value.ref x : Value), [Value.str "__class__" t])) (by first | rfl | (simp only [slotArgs]; rfl)) (wpAny_bind (wpAny_pure (wpAny_bind (l0.at (wpAny_bind (l3.at ?g5)))))))
            case g5 =>
              show wpAny _ _ (holding [Value.builtin "object.__class__"] (call (.builtin "getset_descriptor.__get__") [.builtin "object.__class__", .ref x, .ref D]) >>= ret) _ _ _
              refine wpAny_bind (wpAny_holding (wpAny_call (class_get (s := ⟨hp, g, d, t + 1, os⟩) (ox := ox) (od := od) In I C.hm (wpAny_pure ?g6))))
              case g6 =>
                show wpAny _ _ (handedOut (.ref D)) _ _ _
                rw [handedOut_of (v := .ref D) rfl]
                first
                  | exact wpAny_pure (wpAny_pure h)
                  | exact wpAny_pure h
                  | exact wpAny_pure (wpAny_bind (wpAny_pure (wpAny_pure h)))
theorem kitx_of (C : ExcC K D) : KitX K (.ref x) (.ref D) (fun h => ∃ od, InstAt h x ox D od) where
  ty := fun _ _ _ ⟨_, I⟩ => I.type
  it := fun _ _ X _ => by
    obtain ⟨cd, e, _⟩ := any_some C.hd
    unfold clsIn at e
    split at e
    next lk =>
      intro A Q E s k q
      unfold isType loadHead
      exact wpAny_bind (wpAny_loadPart (k _ _ (X _ _ lk)) <| wpAny_pure q)
    next => cases e
  ne := fun h tp dd its n sl X htp => (handS_kitx_exc (x := x) (ox := ox) C.hg C.hk C.hs C.hd C.ha C.hn C.ht C.hm).ne h tp dd its n sl X htp
  ca := fun X ⟨_, I⟩ k => class_of C X I k
end
/-- isinstance(e, c), e an error on the abstract heap, with a dict or without one -/
def rIsXD (K : PySem.W.Frag) : List V → Hp → VK → Prop := fun xs H Q => ∃ (a D : Addr) (d : Option Addr) (φ : Heap → Prop) (c : V) (cv : Value) (b : Bool), xs = [.ref a, c] ∧ H a = some (.ext φ) ∧
  (∀ h, φ h → ∃ (oe : Obj) (vs : Array Value), h.get? a = some oe ∧ Zc (.ref D) d oe ∧ oe.data = .fields vs) ∧ (∀ dd, d = some dd → ∃ fs, H dd = some (.xd fs)) ∧ ExcC K D ∧ (∀ u, RelV c u → u = cv) ∧ PySem.W.kitOne K (.ref D) cv = some b ∧ Q (.bl b) H
theorem call_isXD {X : Cx} : CallR X (.builtin "isinstance") (rIsXD X.K) := by
  rintro pins s σ H xs us Q I r ⟨a, D, d, φ, c, cv, b, rfl, ha, hφ, hd, C, one, e, q⟩
  obtain ⟨u1, u2, rfl, r1, r2⟩ : ∃ u1 u2, us = [u1, u2] ∧ RelV (.ref a) u1 ∧ RelV c u2 := by
    cases r with
    | cons p r' => cases r' with
      | cons p' r'' => cases r''; exact ⟨_, _, rfl, p, p'⟩
  cases r1
  rw [one _ r2]
  obtain ⟨oe, vs, g, z, dv⟩ := hφ _ (I.hok a _ ha).1
  have nc : PySem.W.notCls oe := by
    unfold PySem.W.notCls
    rw [dv] <;> rfl
  have at_a : ∃ od, PySem.W.InstAt s.heap a oe D od := by
    cases d with
    | none => exact ⟨none, g, z.1, nc, by rw [z.2]; trivial⟩
    | some dd =>
      obtain ⟨fs, ed⟩ := hd dd rfl
      have od := I.hok dd _ ed
      obtain ⟨mA, hns, _⟩ := (show ObjOk X.prog X.w H s.heap dd (.xd fs) from od)
      obtain ⟨oo, ho, _⟩ := lookIn_ns hns
      exact ⟨some oo, g, z.1, nc, by rw [z.2]; exact ho⟩
  refine PySem.W.kia_one (kitx_of (x := a) (ox := oe) C) I.kIn at_a e (fun z => nomatch z) fun tk => ?_
  exact ⟨.bl b, H, I.kept (t' := tk) fun _ _ z => z, rfl, q⟩
def gIsXD (sub : Nat → Nat → Option Bool) (c2 : Nat) : Sx → W → Option W := fun _ w => match w with
  | .exc c _ => (sub c c2).map fun b => .d (.bool b)
  | _ => none
section
variable {C : Cn} {Wx : WX} {X : Cx} {e : Expr} {me : ME} {x cn : Str} {p q pos : Pos}
theorem je_isXD {sub : Nat → Nat → Option Bool} {c2 : Nat} (hx : Hx C X) (kit : KitOf C.K C.cls sub) (he : JE C Wx X e me) (gC : X.mg cn = some (.ref (C.cls c2))) (hg : Gl X "isinstance") (hm : X.mg "isinstance" = none) (gl : Gl X cn := by rfl) (hdb : (cn == ("__debug__" : Str)) = false := by decide) (hs : starEach (e :: [.Name cn q]) X.env = (false, eval e X.env) :: starEach [.Name cn q] X.env := by rfl) (hpl : (backTo pos (starEach [.Name cn q] X.env)).any (·.1) = false := by rfl) :
    JE C Wx X (.Call (.Name "isinstance" p) [e, .Name cn q] [] pos) (mUn (gIsXD sub c2) me) where
  pe := (pe_callB (call_isXD (X := X)) hg hm (by decide +kernel) (pa_cons he.pe (pa_cons (pe_glob (v := .ref (C.cls c2)) gl gC rfl hdb) pa_nil) hs) (by decide) (by decide) hs hpl).weak fun σ H Q ⟨ow, mu, S, R, h⟩ => by
    refine ⟨ow, mu, S, R, Post.bind R.sub h fun w S1 v1 H1 ow1 e1 g1 p1 R1 k1 h1 => ?_⟩
    obtain ⟨z, e3, h3⟩ := Post.of h1
    unfold gIsXD at e3
    split at e3
    · rename_i c l
      cases hb : sub c c2 with
      | none => rw [hb] at e3; cases e3
      | some b =>
        rw [hb] at e3
        cases e3
        obtain ⟨ec, ek⟩ := kit _ _ _ hb
        obtain ⟨a, rfl, φ, d, a1, a2, a3⟩ := k1.1
        rw [hx.hK]
        refine ⟨a, _, d, φ, .ref (C.cls c2), .ref (C.cls c2), b, rfl, hid_sub _ _ a1, a2, fun dd ed => ?_, ec, fun u ru => by cases ru; rfl, ek, h3.now R1 ⟨.bl _, WNew.d⟩⟩
        cases l with
        | none => cases a3.symm.trans ed
        | some n =>
          obtain ⟨d2, e2, e4⟩ := a3
          cases e2.symm.trans ed
          exact ⟨_, hid_sub _ _ e4⟩
    · cases e3
  shp := shp_un he.shp
end
end Vf

set_option Elab.async false
set_option linter.all false
set_option maxRecDepth 100000
set_option maxHeartbeats 1000000
/-! Vf29: a def that calls what it got within a try, gives what that gave, or a text by the error that was caught. -/
namespace Vf
open PySem PySem.Spec PyProof.Rows L2

/-- repr(n), n a whole number -/
def gReprI : Sx → List W → Option W := fun _ wl => match wl with
  | [.d (.int i)] => if i.natAbs.log2 < 1920 then some (.d (.str (toString i))) else none
  | _ => none
theorem o_reprI {C : Cn} : Opn C (fun xs H Q => ∃ i, xs = [.int i] ∧ i.natAbs.log2 < 1920 ∧ Q (.str (toString i)) H) gReprI := fun ow0 ow mu σ H S vs wl w Q R k e q => by
  unfold gReprI at e
  split at e
  · rename_i i
    obtain ⟨v, rfl, k1⟩ := wall1 k
    split at e
    · rename_i hc
      cases e
      cases (Rp.int_inv k1 : v = _)
      exact ⟨i, rfl, hc, q.flat R (.str _)⟩
    · cases e
  · cases e
/-- what such a def makes of the call -/
def TTd (C : Cb) (we : Nat → Option Int → Option Str) : (XK → Hp → VK → Prop) → Hp → VK → Prop := fun tl Ha Q =>
  ∀ H : Hp, Sub Ha H → ∀ Qn : VK, (∀ v H', (∃ (ow : List Addr) (x : PyData), MuOk C ow [] H' none ∧ Rp C.K (hid ow H') v x ∧ ∀ v2 H'' ow'', Grow H' ow ow'' → Pres [] H' H'' → MuOk C ow'' [] H'' none → Rp C.K (hid ow'' H'') v2 x → Q v2 H'') → Qn v H') →
  tl (fun cls d H' => ∃ (ow : List Addr) (c : Nat) (l : Option Int) (z : Str), MuOk C ow [] H' none ∧ XOk C (hid ow H') c l cls d ∧ we c l = some z ∧ ∀ H'' ow'', Grow H' ow ow'' → Pres [] H' H'' → MuOk C ow'' [] H'' none → Q (.str z) H'') H Qn
/-- a state of which two slots are known -/
def st2 (n : Nat) (w1 w2 : W) : Sx := ⟨none :: some (.w w1) :: some (.w w2) :: List.replicate (n - 3) none, none⟩
theorem st2_len {n : Nat} {w1 w2 : W} (h : 3 ≤ n) : (st2 n w1 w2).rho.length = n := by
  show (none :: some (Cell.w w1) :: some (Cell.w w2) :: List.replicate (n - 3) none).length = n
  simp; omega
theorem st2_get {n i : Nat} {w1 w2 : W} {c : Cell} (h : (st2 n w1 w2).rho[i]? = some (some c)) : (i = 1 ∧ c = .w w1) ∨ i = 2 ∧ c = .w w2 := by
  replace h : (none :: some (Cell.w w1) :: some (Cell.w w2) :: List.replicate (n - 3) none)[i]? = some (some c) := h
  match i, h with
  | 0, h => simp at h
  | 1, h => simp at h; exact .inl ⟨rfl, h.symm⟩
  | 2, h => simp at h; exact .inr ⟨rfl, h.symm⟩
  | i + 3, h => simp [List.getElem?_replicate] at h
theorem rel_st2 {C : Cb} {ow : List Addr} {H : Hp} {σ : L2.St} {n : Nat} {w1 w2 : W} {v1 v2 : V} (m : MuOk C ow [] H none) (hl : σ.length = n) (hn : 3 ≤ n) (h1 : σ[1]? = some (some v1)) (h2 : σ[2]? = some (some v2)) (k1 : COk ⟨C, H, [], ow⟩ ow [] H v1 (.w w1)) (k2 : COk ⟨C, H, [], ow⟩ ow [] H v2 (.w w2)) : Rel ⟨C, H, [], ow⟩ ow [] σ H (st2 n w1 w2) where
  sub := m.sub
  trk := m.trk
  tab := m.tab
  cells := fun i c e => by
    rcases st2_get e with ⟨rfl, rfl⟩ | ⟨rfl, rfl⟩
    · exact ⟨v1, h1, k1⟩
    · exact ⟨v2, h2, k2⟩
  inj := fun i j ds es u a b _ _ => by
    rcases st2_get a with ⟨_, z⟩ | ⟨_, z⟩ <;> cases z
  len := by rw [hl, st2_len hn]
  base := Pres.refl H
  fresh := fun b h => absurd h List.not_mem_nil
  gro := Grow.refl H ow
  m0 := fun b h => absurd h List.not_mem_nil
  paH := m.paH
  pen := fun π e => nomatch e
theorem did_gives {X : Cx} {C : Cb} {Ng : List Str} {x a q y u n te : Str} {sg : Scope} {g : Addr} {cdg : Value} {rest : List Stmt} {mrest : MS} {we : Nat → Option Int → Option Str} {k k2 kt1 kt2 : Nat} {p1 p2 p3 p4 p5 p6 p7 p8 p9 p10 p11 p12 p13 p14 p15 p16 p17 : Pos}
    (nd : Ng.Nodup) (n1 : Ng[1]? = some y) (n2 : Ng[2]? = some u) (n3 : Ng[3]? = some n) (h0 : ∀ f : Addr, (L2.start Ng [V.ref f])[0]? = some (some (V.ref f))) (ky : sg.names.lookup y = some .local) (ku : sg.names.lookup u = some .local) (kn : sg.names.lookup n = some .local) (kt : sg.names.lookup te = some .globalImplicit)
    (gt : X.mg te = some (.ref (C.cls 0))) (exm : ∀ c l z, we c l = some z → PySem.W.exmOne X.K (.ref (C.cls c)) (.ref (C.cls 0)) = some true)
    {kr : Nat} (hr : Room (kr + 1) X.A) (hK : X.K = C.K) (hrest : ∀ (H0 : Hp) (ow0 : List Addr) (s : Shared) (H : Hp), Hx ⟨C, H0, [], ow0⟩ (cxOf C8.CX0 X.prog X.w X.K X.mg X.base Ng x sg g cdg X.A X.stack s H C8.E0).nox → Room kr (cxOf C8.CX0 X.prog X.w X.K X.mg X.base Ng x sg g cdg X.A X.stack s H C8.E0).nox.A → JB ⟨C, H0, [], ow0⟩ NoX (cxOf C8.CX0 X.prog X.w X.K X.mg X.base Ng x sg g cdg X.A X.stack s H C8.E0).nox rest mrest)
    (r0 : ∀ d, ∃ S', mrest (st2 Ng.length (.d .none) (.d d)) = .rt (.d d) S') (r1 : ∀ c l z, we c l = some z → ∃ S', mrest (st1 Ng.length (.exc c l)) = .rt (.d (.str z)) S')
    (hw : ∀ (s : Shared) (H : Hp), swappedStores [.Tuple [.Name y p1, .Name u p13] kt1 p14] (.Tuple [.Constant .none k p2, .Constant .none k2 p15] kt2 p16) (cxOf C8.CX0 X.prog X.w X.K X.mg X.base Ng x sg g cdg X.A X.stack s H C8.E0).nox.env = pure none)
    (hsw : ∀ (s : Shared) (H : Hp), swapsWithSole [.Tuple [.Name y p1, .Name u p13] kt1 p14] (.Tuple [.Constant .none k p2, .Constant .none k2 p15] kt2 p16) p3.line (cxOf C8.CX0 X.prog X.w X.K X.mg X.base Ng x sg g cdg X.A X.stack s H C8.E0).nox.env = pure false)
    (dt : (te == ("__debug__" : Str)) = false := by decide) (dn : (n == ("__debug__" : Str)) = false := by decide) (dc : (n == ("__classdict__" : Str)) = false := by decide) :
    LamX.GivesTo X Ng x sg g cdg (.Assign [.Tuple [.Name y p1, .Name u p13] kt1 p14] (.Tuple [.Constant .none k p2, .Constant .none k2 p15] kt2 p16) p3 :: .Try [.Assign [.Name u p4] (.Call (.Name a p5) [] [] p6) p17] [.ExceptHandler (some (.Name te p7)) (some n) [.Assign [.Name y p8] (.Name n p9) p10] p11] [] [] p12 :: rest) a q (TTd C we) := by
  intro f c' s H Q tl act hc h
  have hlen : 4 ≤ Ng.length := by
    obtain ⟨z, _⟩ := List.getElem?_eq_some_iff.mp n3
    omega
  have t1 := ps_asg (X := (cxOf C8.CX0 X.prog X.w X.K X.mg X.base Ng x sg g cdg X.A X.stack s H C8.E0).nox) (pos := p3) (pe_tup (x1 := kt2) (pos := p16) (pa_cons (pe_non (j := k) (pos := p2)) (pa_cons (pe_non (j := k2) (pos := p15)) pa_nil)))
    (pg_tup (k := kt1) (pos := p14) rfl (pgs_cons (pg_name (i := 1) (pos := p1) nd n1 (.inl ky) (.inr ky)) (pgs_cons (pg_name (i := 2) (pos := p13) nd n2 (.inl ku) (.inr ku)) pgs_nil))) (hsw s H) (hw s H)
  have t2 := ps_try_keep (X := (cxOf C8.CX0 X.prog X.w X.K X.mg X.base Ng x sg g cdg X.A X.stack s H C8.E0).nox) (x := te) (n := n) (c := .ref (C.cls 0)) (i := 3) (body := [.Assign [.Name u p4] (.Call (.Name a p5) [] [] p6) p17]) (su := []) (s1 := .Assign [.Name y p8] (.Name n p9) p10) (q1 := p7) (q2 := p11) (q3 := p12) (Wo := fun _ _ _ _ => False)
    (tb := fun W D σ H => ∃ Ech : XK, (∀ cls d σ' H', Ech cls d H' → W cls d σ' H') ∧ σ[0]? = some (some (V.ref f)) ∧ H c' = some (LamX.CodeO c' q) ∧ tl Ech H fun v H1 => D.nx (σ.set 2 (some v)) H1)
    rfl rfl rfl nd n3 kn ⟨kt, dt, .inl gt⟩ LamX.takes0 (fun W pn xe tk _ => ⟨fun pins s' σ H' D I want => ?_⟩) (fun a0 oe cls d pn _ _ => pss_one (ps_set (i := 1) nd n1 (.inl ky) (pe_var (i := 3) n3 (.inl kn) dn dc) rfl (.inr ky)))
  · refine ⟨_, pss_cons t1 (pss_cons t2 (t := _) (u := fun D σ H' => ∃ (H0 : Hp) (ow0 : List Addr), tS ⟨C, H0, [], ow0⟩ NoX mrest D σ H') ⟨fun pins s' σ H' D I ⟨H0, ow0, z⟩ => (hrest H0 ow0 s H ⟨hK, rfl, nd⟩ (hr.deeper _)).run pins s' σ H' D I z⟩), ?_⟩
    have hs0 : (L2.start Ng [V.ref f]).length = Ng.length := by simp [L2.start]; omega
    refine ⟨by rw [sizeLine_eq]; show 2 ≤ 16777216; decide, fun p hp => ⟨p, _, rfl, .inl (.inl upd_same), rfl, _, _, rfl, _, _, rfl, rfl, ?_⟩⟩
    refine ⟨fun cls d H' => ∃ (ow : List Addr) (c : Nat) (l : Option Int) (z : Str), MuOk C ow [] H' none ∧ XOk C (hid ow H') c l cls d ∧ we c l = some z ∧ ∀ H'' ow'', Grow H' ow ow'' → Pres [] H' H'' → MuOk C ow'' [] H'' none → Q (.str z) H'', ?_, ?_, sub_upd hp _ _ hc, ?_⟩
    · rintro cls d σ' H' ⟨ow, c, l, z, m, ⟨rfl, xo⟩, ew, fin⟩
      refine ⟨true, exm c l z ew, (fun z => nomatch z), fun _ hl a0 ha0 => ?_⟩
      replace hl : σ'.length = Ng.length := hl
      have na : a0 ∉ ow := fun z => by obtain ⟨o, e, _⟩ := m.trk a0 z; rw [ha0] at e; cases e
      refine ⟨.ref a0, List.getElem?_set_self (by omega), ?_⟩
      have su : Sub H' (upd H' a0 (ExcT (.ref (C.cls c)) d a0)) := sub_upd ha0
      have m2 : MuOk C ow [] (upd H' a0 (ExcT (.ref (C.cls c)) d a0)) none := ⟨fun b h => absurd h List.not_mem_nil, fun b hb => by obtain ⟨o, e, t⟩ := m.trk b hb; exact ⟨o, su _ _ e, t⟩, m.tab.ext su, fun b h => absurd h List.not_mem_nil, m.paH, fun π e => nomatch e⟩
      obtain ⟨S', er⟩ := r1 c l z ew
      have exv : ExcV C (hid ow (upd H' a0 (ExcT (.ref (C.cls c)) d a0))) c l a0 := by
        refine ⟨_, d, hid_at na upd_same, fun h z => z, ?_⟩
        cases l with
        | none => exact xo
        | some n =>
          obtain ⟨dd, e1, e2⟩ := xo
          obtain ⟨e3, e4⟩ := hid_some e2
          exact ⟨dd, e1, hid_at e3 (su _ _ e4)⟩
      refine ⟨_, ow, ow, [], st1 Ng.length (.exc c l), rel_st1 (v := .ref a0) m2 (by simp [hl]) (by omega) ?_ ⟨a0, rfl, exv⟩, ?_⟩
      · rw [List.getElem?_set_ne (by decide), List.getElem?_set_self (by simp; omega)]
      · rw [er]
        intro v ow2 mu2 σ2 H2 pr R2 k2 _
        cases (Rp.str_inv k2 : v = _)
        refine fin H2 ow2 ⟨pr.g.1, fun b hb => (pr.g.2 b hb).imp id fun z => ?_⟩ ((Pres.of su).trans pr.p) (muOk_of R2)
        by_cases e : b = a0
        · subst e; exact z.no (by intro _ q; cases q) upd_same
        · unfold Nil at z ⊢; rw [upd_ne e] at z; exact z
    · rw [List.getElem?_set_ne (by decide), List.getElem?_set_ne (by decide)]; exact h0 f
    · refine h _ (sub_upd hp) _ ?_
      rintro v0 H' ⟨ow, d, m, rd, fin⟩
      obtain ⟨S', er⟩ := r0 d
      refine ⟨_, ow, ow, [], st2 Ng.length (.d .none) (.d d), rel_st2 (v1 := .non) (v2 := v0) m (by rw [List.length_set, List.length_set, List.length_set]; exact hs0) (by omega) ?_ ?_ .non rd, ?_⟩
      · rw [List.getElem?_set_ne (by decide), List.getElem?_set_ne (by decide), List.getElem?_set_self (by omega)]
      · rw [List.getElem?_set_self (by rw [List.length_set, List.length_set]; omega)]
      · rw [er]
        intro v ow2 mu2 σ2 H2 pr R2 k2 _
        exact fin v H2 ow2 pr.g pr.p (muOk_of R2) k2
  · obtain ⟨Ech, hW, w1, w2, w3⟩ := want
    exact (pss_one (ps_set (i := 2) (pos := p17) (pos' := p4) nd n2 (.inl ku) (act W pn xe Ech p5 p6 tk hW) rfl (.inr ku))).run pins s' σ H' D I ⟨w1, w2, w3⟩
end Vf

set_option Elab.async false
set_option linter.all false
set_option maxRecDepth 100000
set_option maxHeartbeats 1000000
/-! Vf30: x(lambda: body), x a def as in Vf29. -/
namespace Vf
open PySem PySem.Spec PyProof.Rows L2
def mDid (we : Nat → Option Int → Option Str) (mb : ME) : ME := fun S => match mb S with
  | .ok w S1 => (match argD w with
    | some x => .ok (.d x) S1
    | none => .bad)
  | .ex c l S1 => (match we c l with
    | some z => .ok (.d (.str z)) S1
    | none => .bad)
  | .bad => .bad
section
variable {C : Cn} {Wx : WX} {X : Cx}
theorem je_did {x a : Str} (hx : Hx C X) {st : Stmt} {g c P : Addr} {fd : FuncData} {k : Nat} {Ng : List Str} {we : Nat → Option Int → Option Str} {params : Arguments} {body : Expr} {scope : Scope} {mb : ME} {p lpos pos : Pos} (lo : LamOk X C.T c P) (D : DefOk X.K X.mg x st [a] g fd) (Sg : FnScope Ng [a] (defScope st)) (hNg : Ng[0]? = some a) (hva : Vis (defScope st) a)
    (hG : ∀ cdv, LamX.GivesTo X Ng x (defScope st) g cdv (defBody st) a (X.env.qual ++ "<lambda>") (TTd C we)) (hr : Room (k + 2) X.A)
    (hbody : ∀ (A : Around) (outer : List Env) (s : Shared) (H : Hp) (E : XK) (f c' : Addr), Room k (LamX.lamCx X A outer s H E scope f c').A → Hx C (LamX.lamCx X A outer s H E scope f c') → Takes (LamX.lamCx X A outer s H E scope f c') (fun cl d _ H => E cl d H) → JE C (fun cl d _ H => E cl d H) (LamX.lamCx X A outer s H E scope f c') body mb)
    (hs : ShpM mb) (hsx : ShpX mb)
    (L : LamX.LamS X.env.scope scope) (hdef : defaultsOf params X.env = ([], []) := by rfl)
    (hbind : ∀ (q : Str) (cl : List (Str × Addr)) (pm cv ctv : Value), bindArgs (PySem.W.kla_fn "<lambda>" q params body scope cl pm cv ctv) ⟨[], []⟩ = pure [] := by intros; rfl)
    (hg : Gl X x := by rfl) (hdb : (x == ("__debug__" : Str)) = false := by decide) (hd : (a == ("__debug__" : Str)) = false := by decide) (hcd : (a == ("__classdict__" : Str)) = false := by decide) :
    JE C Wx X (.Call (.Name x p) [.Lambda params body scope lpos] [] pos) (mDid we mb) where
  pe := by
    obtain ⟨oc, od, kV, doc, pm, an, cdv, ct, osl, rfl, lk, hcg⟩ := D.F.ex
    refine (LamX.pe_lamcall (T := C.T) (TT := TTd C we) (t := fun E => tM C (fun cl d _ H => E cl d H) mb) hg D.g D.k lk hcg D.b Sg hNg hva (hG cdv) lo.tb lo.code lo.mem lo.one hr L hdef hbind (fun A outer s H E f c' hr' => (hbody A outer s H E f c' hr' ⟨hx.hK, rfl, hx.nd⟩ (takes_of rfl rfl rfl rfl)).pe) hdb hd hcd).weak ?_
    rintro σ H Q ⟨ow, mu, S, R, h⟩
    refine ⟨R.tab, fun H0 eN0 T0 H1 sb Qn hQn => ?_⟩
    have eN : LamX.ExtN H H1 := fun b o h n => sb b o (eN0 b o h n)
    have T1 := T0.ext sb
    have R1 : Rel C ow mu σ H1 S := R.extN eN T1
    have p01 : Pres mu H H1 := fun b o _ n h => eN b o h n
    have g0 : ∀ {ow'}, Grow H1 ow ow' → Grow H ow ow' := fun g => (Grow.refl H ow).trans p01 R.sub g
    refine ⟨ow, mu, S, R1, ?_⟩
    unfold mDid at h
    cases em : mb S with
    | bad => rw [em] at h; exact h.elim
    | ok w S' =>
      rw [em] at h
      dsimp only at h
      cases ew : argD w with
      | none => rw [ew] at h; exact h.elim
      | some d =>
        rw [ew] at h
        intro v H' ow' g p R' ks
        have R2 : Rel C ow mu σ H' S' := R'.less g.1 R1.sub R1.paH R1.gro.1
        refine hQn v H' ⟨ow, d, muOk_rel R2, arg1 g.1 ks.1 ks.2 ew, fun v2 H'' ow'' g2 p2 m2 r2 => ?_⟩
        have p2' : Pres mu H' H'' := p2.mono fun b hb => absurd hb List.not_mem_nil
        exact h v2 H'' ow'' ((g0 (Grow.refl H1 ow)).trans (p01.trans p) R.sub g2) ((p01.trans p).trans p2') (R2.by0 g2 p2 m2.trk m2.tab) ⟨r2, WNew.d⟩
    | ex c l S' =>
      rw [em] at h
      dsimp only at h
      cases ew : we c l with
      | none => rw [ew] at h; exact h.elim
      | some z =>
        rw [ew] at h
        intro H' ow' cls d g p R' xo
        refine ⟨ow', c, l, z, muOk_rel R', xo, ew, fun H'' ow'' g2 p2 m2 => ?_⟩
        have p2' : Pres mu H' H'' := p2.mono fun b hb => absurd hb List.not_mem_nil
        exact h (.str z) H'' ow'' ((g0 g).trans (p01.trans p) R.sub g2) ((p01.trans p).trans p2') (R'.by0 g2 p2 m2.trk m2.tab) ⟨.str _, WNew.d⟩
  shp := fun S w S' e => by
    unfold mDid at e
    cases em : mb S with
    | bad => rw [em] at e; cases e
    | ok w' S1 =>
      rw [em] at e
      dsimp only at e
      split at e
      · cases e; exact hs _ _ _ em
      · cases e
    | ex c l S1 =>
      rw [em] at e
      dsimp only at e
      split at e
      · cases e; exact hsx _ _ _ _ em
      · cases e
end
end Vf

set_option Elab.async false
set_option linter.all false
set_option maxRecDepth 100000
set_option maxHeartbeats 1000000
/-! Vf31: enumerate of a list. -/
namespace Vf
open PySem PySem.Spec PyProof.Rows L2
/-- the items with their places -/
def numD (ds : List PyData) : List PyData := (List.range ds.length).map fun i => .tuple [.int ((i : Nat) : Int), ds.getD i .none]
def mItE (me : ME) : MI := fun S => (me S).bind fun w S1 => RE.of ((itl S1 w).map numD) S1
section
variable {C : Cn} {Wx : WX} {X : Cx} {e : Expr} {me : ME} {elts : List Expr} {kk : Nat} {tpos p pos : Pos}
theorem numD_len (ds : List PyData) : (numD ds).length = ds.length := by simp [numD]
theorem walks_num {ow mu : List Addr} {H : Hp} {a : Addr} {vs : List V} {ds : List PyData} (s : ∀ b ∈ mu, b ∈ ow) (ha : H a = some (.lst vs)) (na : a ∉ mu) (ra : RpAll C.K (hid ow H) vs ds) : WalksD C.K mu ow H (Ite C.K a) (numD ds) where
  stop := fun H' p => ⟨vs, .inl (.inl (p _ _ na (by intro _ z; cases z) ha)), by rw [numD_len, ra.length]; exact Nat.le_refl _⟩
  go := fun i H' hi p => by
    rw [numD_len] at hi
    exact ⟨vs, vs[i]'(by rw [ra.length]; exact hi), .inl (.inl (p _ _ na (by intro _ z; cases z) ha)), List.getElem?_eq_getElem _⟩
  yld := fun i H' x H'' hi p y => by
    rw [numD_len] at hi
    obtain ⟨T, z, rfl, hT, rfl, y⟩ := y
    have e := y vs (.inl (.inl (p _ _ na (by intro _ z; cases z) ha)))
    obtain ⟨v, h1, h2⟩ := ra.get (i := i) (d := ds[i]) (List.getElem?_eq_getElem hi)
    rw [h1] at e
    cases e
    refine ⟨.tuple [.int ((i : Nat) : Int), ds[i]], by simp [numD, hi], sub_upd hT, fun ow2 g t => ?_⟩
    have nT : T ∉ ow2 := fun q => by obtain ⟨o, e, _⟩ := t T q; rw [hT] at e; cases e
    exact .tup (.inl (.inl (hid_at nT upd_same))) (.cons (.int _) (.cons (h2.mono fun b o hb => hid_pres (mu := []) (fun b h => absurd h List.not_mem_nil) (Pres.of (sub_upd hT)) b o (hid_grow g s p b o hb)) .nil))
theorem ji_enum (hx : Hx C X) (h : JE C Wx X e me) (hm : X.mg "enumerate" = none) (hg : Gl X "enumerate" := by rfl) (hs : starEach [e] X.env = [(false, eval e X.env)] := by rfl) (hs1 : starEach (e :: []) X.env = (false, eval e X.env) :: starEach [] X.env := by rfl) : JI C Wx X (.Tuple elts kk tpos) (.Call (.Name "enumerate" p) [e] [] pos) (mItE me) where
  pi := by
    have := pi_enum (elts := elts) (kk := kk) (tpos := tpos) (p := p) (pos := pos) hg hm (pa_cons h.pe pa_nil hs1) hs
    refine ⟨fun pins s σ H Rr I ⟨ow, mu, S, R, q⟩ => this.run pins s σ H Rr I ⟨ow, mu, S, R, Post.bind0 (Grow.refl H ow) (Pres.refl H) R.sub q fun w S1 v H1 ow1 e1 g1 p1 R1 k1 h1 => ?_⟩⟩
    obtain ⟨es, e2, h2⟩ := Post.ofG h1
    obtain ⟨ds, e3, rfl⟩ := Option.map_eq_some_iff.mp e2
    have el : lview S1 w = some ds ∧ ∀ i, w ≠ .own i := by
      cases w with
      | own i => cases e3
      | _ => exact ⟨e3, fun _ z => nomatch z⟩
    obtain ⟨a, vs, rfl, ha, ra⟩ := lview_ok R1 k1.1 el.1
    rw [hx.hK]
    refine ⟨a, vs, rfl, .inl (.inl ha), h2 _ H1 ow1 g1 p1 R1 (walks_num (C := C) g1.1 ha (fun z => ?_) ra)⟩
    cases w with
    | own i => exact el.2 i rfl
    | new es => exact k1.2 es rfl a rfl z
    | d x =>
      cases x with
      | list es => obtain ⟨p, _, e3, h3, _⟩ := Rp.lst_inv k1.1; cases e3; exact (hid_some h3).1 (g1.1 _ z)
      | _ => cases el.1
    | _ => cases el.1
  shp := shp_bind h.shp fun _ => shp_of
end
theorem shm_bin {g : Sx → W → W → Option W} {ma mb : ME} (ha : ShpM ma) (hb : ShpM mb) : ShpM (mBin g ma mb) := shp_bind ha fun _ => shp_bind hb fun _ => shp_of
end Vf

set_option Elab.async false
set_option linter.all false
set_option maxRecDepth 100000
set_option maxHeartbeats 1000000
/-! Vf32: the head's facts of a class of errors with an __init__ of its own. -/
namespace Vf
open PySem PySem.Spec PyProof.Rows L2
def oexB (K : PySem.W.Frag) (C : Addr) : Bool := (match K.lookup C with
  | some ⟨.type "type", _, .cls cd, sl⟩ => (match cd.mro, sl.toList with
    | .ref C' :: bm, [_, _, _, _, some (.builtin n), _] => decide (C' = C) && (decide (n = "ValueError.__new__") && (cd.hasDict && (!cd.hasDel && PySem.HandSPX.refsVE bm)))
    | _, _ => false)
  | _ => false) && (decide (PySem.W.findIn K (.ref C) "__setattr__" = some (some (.builtin "object.__setattr__"))) && (decide (PySem.W.subIn K (.ref C) (.type "BaseException") = some true) && (decide (PySem.W.typeIn K (.ref C) = some (.type "type")) && PySem.W.keepIn K (.ref C))))
theorem oexB_ok {K : PySem.W.Frag} {C : Addr} (h : oexB K C = true) : OexC K C := by
  obtain ⟨h1, h⟩ := Bool.and_eq_true_iff.mp h
  obtain ⟨h2, h⟩ := Bool.and_eq_true_iff.mp h
  obtain ⟨h3, h⟩ := Bool.and_eq_true_iff.mp h
  obtain ⟨h4, h5⟩ := Bool.and_eq_true_iff.mp h
  refine ⟨?_, of_decide_eq_true h2, of_decide_eq_true h3, of_decide_eq_true h4, h5⟩
  split at h1
  · rename_i dd cd sl ho
    split at h1
    · rename_i C' bm k0 k1 k2 k3 n k5 hm hs
      simp only [Bool.and_eq_true, decide_eq_true_eq, Bool.not_eq_true'] at h1
      obtain ⟨e1, e2, e3, e4, e5⟩ := h1
      subst e1 e2
      obtain ⟨nm, bs, mro, ns, qn, hd, sn, sub, ab, col, del⟩ := cd
      dsimp only at hm e3 e4
      subst hm e3 e4
      obtain ⟨l⟩ := sl
      dsimp only at hs
      subst hs
      exact ⟨_, _, _, _, _, _, _, _, _, _, _, _, _, _, _, ho, e5⟩
    · cases h1
  · cases h1
/-- the class x with the field line, over the class y that has no __init__ -/
def lineB (x y : Str) (K : PySem.W.Frag) : Bool := oexB K (He.ga K x) && (xfB K (He.ga K x) && (decide (PySem.W.findIn K (.ref (He.ga K x)) "line" = some none) && (decide (PySem.W.specialIn K (.ref (He.ga K y)) "__getattribute__" = some (some (.builtin "type.__getattribute__"))) &&
  (decide (PySem.W.typeIn K (.ref (He.ga K y)) = some (.type "type")) && (PySem.W.readsIn K (He.ga K y) (.type "type") && (match PySem.W.findCls K (.ref (He.ga K y)) (.type "type") "__init__" with
    | some (.val (.builtin b)) => decide (b = "ValueError.__init__")
    | _ => false) && (decide (PySem.W.findIn K (.ref (He.ga K x)) "__init__" = some (some (.ref (He.ma K (He.ga K x) "__init__")))) && decide (PySem.W.typeIn K (.ref (He.ma K (He.ga K x) "__init__")) = some (.type "function"))))))))
def dfnM (x m qual : Str) (st : Stmt) : He.DefD := ⟨(x, some m), m, qual, defArgs st, defBody st, defScope st, [], []⟩
theorem fun_ofM {K : PySem.W.Frag} {x qual : Str} {st : Stmt} {f : Addr} {fd : FuncData} (F : FunD K x qual (defArgs st) (defBody st) (defScope st) [] [] f fd) : Fun K x qual st f fd := by
  obtain ⟨oc, od, dV, kV, doc, pm, an, cdv, ct, osl, e, lk, hcd, hD, _⟩ := F.ex
  rcases hD with ⟨_, rfl⟩ | ⟨z, _⟩
  · exact ⟨⟨oc, od, kV, doc, pm, an, cdv, ct, osl, e, lk, hcd⟩, F.kp⟩
  · exact absurd rfl z
theorem defM {K : PySem.W.Frag} {fa : List He.Fa} {fn : List He.DefD} (c : He.SaysD fa fn K) {x m qual : Str} {st : Stmt} {ps : List Str} (hd : dfnM x m qual st ∈ fn)
    (hb : ∀ (kV doc pm : Value) (an : Option Addr) (cdv ct : Value) (us : List Value), us.length = ps.length → bindArgs (PySem.W.fnOf m qual (defArgs st) (defBody st) (defScope st) .none kV doc pm an cdv ct) ⟨us, []⟩ = pure (ps.zip us)) :
    ∃ fd, Fun K m qual st (He.ma K (He.ga K x) m) fd ∧ Binds K fd ps [] := by
  obtain ⟨fd, F⟩ := c.defs hd
  replace F : FunD K m qual (defArgs st) (defBody st) (defScope st) [] [] (He.ma K (He.ga K x) m) fd := F
  exact ⟨fd, fun_ofM F, F.bindsN hb⟩
theorem lineB_ok {x y : Str} {K : PySem.W.Frag} (h : lineB x y K = true) : OexC K (He.ga K x) ∧ XfC K (He.ga K x) ∧ PySem.W.findIn K (.ref (He.ga K x)) "line" = some none ∧ PySem.W.specialIn K (.ref (He.ga K y)) "__getattribute__" = some (some (.builtin "type.__getattribute__")) ∧
    PySem.W.typeIn K (.ref (He.ga K y)) = some (.type "type") ∧ PySem.W.readsIn K (He.ga K y) (.type "type") = true ∧ PySem.W.findCls K (.ref (He.ga K y)) (.type "type") "__init__" = some (.val (.builtin "ValueError.__init__")) ∧
    PySem.W.findIn K (.ref (He.ga K x)) "__init__" = some (some (.ref (He.ma K (He.ga K x) "__init__"))) ∧ PySem.W.typeIn K (.ref (He.ma K (He.ga K x) "__init__")) = some (.type "function") := by
  obtain ⟨h1, h⟩ := Bool.and_eq_true_iff.mp h
  obtain ⟨h2, h⟩ := Bool.and_eq_true_iff.mp h
  obtain ⟨h3, h⟩ := Bool.and_eq_true_iff.mp h
  obtain ⟨h4, h⟩ := Bool.and_eq_true_iff.mp h
  obtain ⟨h5, h⟩ := Bool.and_eq_true_iff.mp h
  obtain ⟨h67, h⟩ := Bool.and_eq_true_iff.mp h
  obtain ⟨h6, h7⟩ := Bool.and_eq_true_iff.mp h67
  obtain ⟨h8, h9⟩ := Bool.and_eq_true_iff.mp h
  refine ⟨oexB_ok h1, xfB_ok h2, of_decide_eq_true h3, of_decide_eq_true h4, of_decide_eq_true h5, h6, ?_, of_decide_eq_true h8, of_decide_eq_true h9⟩
  split at h7
  · rename_i b e
    rw [e, of_decide_eq_true h7]
  · cases h7
end Vf

set_option Elab.async false
set_option linter.all false
set_option maxRecDepth 100000
set_option maxHeartbeats 1000000
/-! Vf33: the head's look, the interpreter's own statics with it. -/
namespace Vf
open PySem PySem.Spec PyProof.Rows L2
section
variable {fa : List He.Fa} {fn : List He.DefD} {ts : List He.Tab} {tf : List He.Defn} {ex : PySem.W.Frag → Bool}
theorem saysL_of {w : World} {h : Heap} {K : PySem.W.Frag} (eK : ∃ as, K = He.frT h.get? as) (e : ((He.obsT fa fn ts K, ex K && He.tabsB h.get? tf K) : He.AlX) = He.valX fn ts w) : He.SaysX fa fn ts tf ex w h K := by
  obtain ⟨h1, h2⟩ := He.ba (congrArg Prod.snd e : (ex K && He.tabsB h.get? tf K) = true)
  have each : ∀ p ∈ tf, PySem.W.codeHdIn K (He.cT K p).1 (He.cT K p).2 = true ∧ ∃ o, h.get? (He.cT K p).2 = some o ∧ He.emptyTab o = true := fun p hp => by
    obtain ⟨a, b⟩ := He.ba (List.all_eq_true.mp h2 p hp)
    refine ⟨a, ?_⟩
    split at b
    · exact ⟨_, by assumption, b⟩
    · cases b
  refine ⟨congrArg Prod.fst e, h1, fun p hp => (each p hp).1, fun p hp => ?_, fun p hp => ?_⟩
  · obtain ⟨_, o, q, z⟩ := each p hp
    obtain ⟨as, rfl⟩ := eK
    exact He.frT_none q z
  · obtain ⟨_, o, q, z⟩ := each p hp
    rw [q, He.emptyTab_eq z]
end
def asS (g : Addr → Option Obj) (n : Nat) : List Addr := He.asD g n ++ [cStatics]
def obsS (n : Nat) (fa : List He.Fa) (fn : List He.DefD) (ts : List He.Tab) (tf : List He.Defn) (ex : PySem.W.Frag → Bool) (g : Addr → Option Obj) : He.AlX :=
  (He.obsT fa fn ts (He.frT g (asS g n)), ex (He.frT g (asS g n)) && He.tabsB g tf (He.frT g (asS g n)))
def hookS (n : Nat) (fa : List He.Fa) (fn : List He.DefD) (ts : List He.Tab) (tf : List He.Defn) (ex : PySem.W.Frag → Bool) : PySem.W.Hook where
  α := He.AlX
  obs := fun s => obsS n fa fn ts tf ex s.heap.get?
  val := fun w => He.valX fn ts w
  says := fun w h => ∃ K : PySem.W.Frag, K.In h ∧ He.SaysX fa fn ts tf ex w h K
  of := fun _ _ e => ⟨_, He.frT_in, saysL_of ⟨_, rfl⟩ e⟩
  keeps := fun _ _ _ ⟨K, hK, c⟩ k => ⟨K, PySem.W.Frag.In.keeps hK k, c.t, c.more, c.hd, c.out, fun p hp => k _ _ (c.empty p hp)⟩
theorem obsS_eq {n : Nat} {fa : List He.Fa} {fn : List He.DefD} {ts : List He.Tab} {tf : List He.Defn} {ex : PySem.W.Frag → Bool} {g : Addr → Option Obj} {s : Shared} (h : ∀ a, g a = s.heap.get? a) : obsS n fa fn ts tf ex g = (hookS n fa fn ts tf ex).obs s := by
  have e : g = s.heap.get? := funext h
  subst e
  rfl
end Vf

set_option Elab.async false
set_option linter.all false
set_option maxRecDepth 100000
set_option maxHeartbeats 4000000
/-! Vx1: an own error made by a call with keywords alone: its __new__ takes them and looks at none. -/
namespace Vf
open PySem PySem.W PySem.HandSPX
section
variable {prog : Program} {w : World} {A : Around} {E : Value → Shared → Prop} {R : Result → Shared → Prop} {h : Heap} {g : Array GenState} {d : Drawn} {t : Nat} {os : OsState}
variable {nm q : Str} {C N fI : Addr} {bs bm bmB sub : List Value} {hdct ab : Bool} {sn : List Str} {col : Option Bool} {dd : Option Addr} {k0 k1 k2 k3 k5 : Option Value} {B newId initId : String} {kw : List (Str × Value)}
theorem kw_check_new {M : Model} {Q : Unit → Shared → Prop} (F : ExcBaseFacts B newId initId bmB) (same : ∀ X : String, bm.contains (.type X) = bmB.contains (.type X))
    (hC : h.get? C = some (excClassObj nm q C N bs bm hdct sn sub ab col dd k0 k1 k2 k3 k5 newId)) (z : Q () ⟨h, g, d, t, os⟩) : wpAny M A (checkBuiltinCall newId ⟨[.ref C], kw⟩) Q E ⟨h, g, d, t, os⟩ := by
  have inB : (Value.ref C :: bm).contains (.type B) = true := by rw [List.contains_cons, same, F.hasB, Bool.or_true]
  have star := F.noStar
  simp only [checkBuiltinCall, F.newKind, F.newSplit, F.newRow]
  repeat (first | refine wpAny_madeBy_exc hC ?_ | refine wpAny_staticBase_exc hC ?_ | (refine wpAny_isSubtype_exc hC ?_; rw [inB]) | refine wpAny_loadPart_at hC ?_ | simp only [bne_self_eq_false, Bool.false_eq_true, if_false] | wp_step)
  exact z
theorem kw_new (F : ExcBaseFacts B newId initId bmB) (same : ∀ X : String, bm.contains (.type X) = bmB.contains (.type X))
    (hC : h.get? C = some (excClassObj nm q C N bs bm hdct sn sub ab col dd k0 k1 k2 k3 k5 newId))
    (z : R (.ok (.ret (.ref (h.objs.size + 1)))) ⟨(h.push (kdv_tup [])).push (excO C h.objs.size), g, d, t, os⟩) :
    codeAny (model prog w) A (.builtin newId ⟨[.ref C], kw⟩) R ⟨h, g, d, t, os⟩ := by
  have ends := F.ends
  have inB : (Value.ref C :: bm).contains (.type B) = true := by rw [List.contains_cons, same, F.hasB, Bool.or_true]
  have inA : (Value.ref C :: bm).contains (.type "AttributeError") = false := by rw [List.contains_cons, same, F.noAttr]; rfl
  have inN : (Value.ref C :: bm).contains (.type "NameError") = false := by rw [List.contains_cons, same, F.noName]; rfl
  refine codeAny_builtinAt F.entry ?_
  unfold Builtin.«BaseException.__new__»
  refine wpAt_bind ?_
  show wpAt _ _ _ (stack >>= _) _ _ _
  refine wpAt_bind (wpAt_stack fun p below => wpAt_of_wpAny ?_)
  wp_walk
  refine wpAt_of_wpAny ?_
  rw [F.owner]
  repeat (first | with_reducible refine wpAny_loadPart_at hC ?_ | with_reducible refine wpAny_madeHere_exc F.canon hC ?_ | (with_reducible refine wpAny_isSubtype_exc hC ?_; first | rw [inA] | rw [inN] | rw [inB]) | wp_step)
  show R _ _
  rw [Heap.size_push]
  exact z
theorem kw_type_call {Q : PySem.Fin → Shared → Prop} (F : ExcBaseFacts B newId initId bmB) (same : ∀ X : String, bm.contains (.type X) = bmB.contains (.type X))
    (hC : h.get? C = some (excClassObj nm q C N bs bm hdct sn sub ab col dd k0 k1 k2 k3 k5 newId))
    (li : Looks (model prog w) h (typeLookup (.ref C) "__init__") (some (.ref fI))) (lb : ∀ self, Looks (model prog w) h (bindSpecial (.ref fI) self) (.ref fI, [self]))
    (z : codeAny (model prog w) A (.call (.ref fI) ⟨[.ref (h.objs.size + 1)], kw⟩)
      (fun r s' => match r with | .ok (.ret v) => v = .none ∧ Q (.done (.ret (.ref (h.objs.size + 1)))) s' | .ok _ => False | .error e => E e s')
      ⟨(h.push (kdv_tup [])).push (excO C h.objs.size), g, d, t, os⟩) :
    wpAny (model prog w) A (Builtin.«type.__call__» ⟨[.ref C], kw⟩) Q E ⟨h, g, d, t, os⟩ := by
  repeat (first | with_reducible refine wpAny_madeBy_exc hC ?_ | with_reducible refine wpAny_loadPart_at hC ?_ | wp_step)
  refine codeAny_call_builtin_code (Code.quiet_builtin _ F.quiet) (kw_check_new F same hC (kw_new F same hC ?_))
  show wpAny _ _ _ _ _ _
  have stay : ∀ b o, h.get? b = some o → ((h.push (kdv_tup [])).push (excO C h.objs.size)).get? b = some o := fun b o e => Heap.get?_push_of_some _ (Heap.get?_push_of_some _ e)
  have hC1 := stay _ _ hC
  have made : ((h.push (kdv_tup [])).push (excO C h.objs.size)).get? (h.objs.size + 1) = some (excO C h.objs.size) := by heap_get
  have inC : (Value.ref C :: bm).contains (.ref C) = true := by simp
  have l1 := li.keeps stay
  have l2 := (lb (.ref (h.objs.size + 1))).keeps stay
  unfold isInstance
  repeat (first | (with_reducible refine wpAny_isSubtype_exc hC1 ?_; rw [inC]) | with_reducible refine wpAny_loadPart_at made ?_ | wp_step)
  show wpAny _ _ (typeLookup (.ref C) _) _ _ _
  refine l1.at (wpAny_holding (wpAny_bind (l2.at ?_)))
  refine wpAny_bind (wpAny_call (codeAny_mono z fun r s' y => ?_))
  rcases r with e | (v | _ | _ | _) <;> first | exact y | exact y.elim | skip
  obtain ⟨rfl, y⟩ := y
  first | exact wpAny_pure (wpAny_pure y) | (wp_walk; exact y)
theorem kw_call (F : ExcBaseFacts B newId initId bmB) (same : ∀ X : String, bm.contains (.type X) = bmB.contains (.type X))
    (hC : h.get? C = some (excClassObj nm q C N bs bm hdct sn sub ab col dd k0 k1 k2 k3 k5 newId))
    (li : Looks (model prog w) h (typeLookup (.ref C) "__init__") (some (.ref fI))) (lb : ∀ self, Looks (model prog w) h (bindSpecial (.ref fI) self) (.ref fI, [self]))
    (z : codeAny (model prog w) (A.under (.builtin "type.__call__" ⟨[.ref C], kw⟩)) (.call (.ref fI) ⟨[.ref (h.objs.size + 1)], kw⟩) (InitBack (h.objs.size + 1) R)
      ⟨(h.push (kdv_tup [])).push (excO C h.objs.size), g, d, t, os⟩) :
    codeAny (model prog w) A (.call (.ref C) ⟨[], kw⟩) R ⟨h, g, d, t, os⟩ := by
  have e1 := tc_lookup
  have e2 := tc_bind (.ref C)
  have ty : (⟨h, g, d, t, os⟩ : Shared).TypeIs (.ref C) "type" := ⟨_, hC, rfl⟩
  refine codeAny_of_tree ?_
  show wpAny _ _ (callAny (.ref C) _) _ _ _
  repeat (any_goals (first | with_reducible refine wpAny_loadPart_at hC ?_ | assumption | wp_step))
  refine ⟨rfl, ?_⟩
  refine codeAny_call_builtin_at (Code.quiet_builtin _ (by decide +kernel)) entry_typeCall (wpAny_check_type_call_sub hC (kw_type_call F same hC li lb ?_))
  exact codeAny_mono z fun r s' y => by rcases r with e | (v | _ | _ | _) <;> exact y
end
end Vf

set_option Elab.async false
set_option linter.all false
set_option maxRecDepth 100000
set_option maxHeartbeats 4000000
/-! Vx2: errors as values: made, by a word, by a number, by the keyword line. -/
namespace Vf
open PySem PySem.Spec PyProof.Rows L2
/-- an error made, not raised: tracked as any other object -/
def exOd (cls : Value) (d : Option Addr) (a : Addr) : HO := .ext fun h => ∃ (oe : Obj) (vs : Array Value), h.get? a = some oe ∧ Zc cls d oe ∧ oe.data = .fields vs
theorem pe_of_pmk {X : Cx} {e : Expr} {t : L2.St → Hp → XK → Prop} (h : PMk X e t) : PE X e (fun σ H Q => t σ H fun cls d H' => ∀ a, H' a = none → Q (.ref a) (upd H' a (exOd cls d a))) := by
  refine ⟨fun pins s σ H Q I q => wpAny_mono (h pins s σ H _ I q) (fun u s1 hu => ?_) fun _ _ z => z⟩
  obtain ⟨a, oe, vs, sI, H', cls, d, rfl, J, k, hne, ha, hz, hd, h1, na, os, ag, r, q⟩ := hu
  have ok : ObjOk X.prog X.w (upd H' a (exOd cls d a)) s1.heap a (exOd cls d a) := ⟨⟨oe, vs, ha, hz, hd⟩, ⟨oe, ha⟩, fun _ _ ⟨o, v, g, z⟩ kk => ⟨o, v, kk o g, z⟩⟩
  obtain ⟨h1', g1, d1, t1, o1⟩ := s1
  obtain ⟨hI, gI, dI, tI, oI⟩ := sI
  dsimp only at os
  subst os
  exact ⟨.ref a, _, J.call (g' := g1) (d' := d1) (t' := t1) (ch := []) (Un.laidN k hne na) (J.hok.laidN k na ok) ag (fun _ z => nomatch z), rfl, q a na⟩
section
variable {X : Cx} {CX : CXT} {e : Expr} {te : TE} {p pos kpos : Pos} {x : Str} {C fI : Addr} {k : Nat} {fd : FuncData} {sp : Sp}
/-- C(line = e) -/
def tMkK (C : Addr) (sp : Sp) (te : TE) : L2.St → Hp → XK → Prop := fun σ H Q => tCons te tNil σ H fun vs H1 => ∃ v, vs = [v] ∧ ∀ a, H1 a = none → sp [.ref a, v] (upd H1 a (exo a C none))
  (fun r H2 => r = .non ∧ ∃ (d : Addr) (fs : List (Str × V)), H2 a = some (exo a C (some d)) ∧ H2 d = some (exd d fs) ∧ H1 d = none ∧ Q (.ref C) (some d) (upd (del H2 a) d (.xd fs))) fun _ _ _ => False
theorem pmk_kw (T : OexC X.K C) (iC : PySem.W.findIn X.K (.ref C) "__init__" = some (some (.ref fI))) (tI : PySem.W.typeIn X.K (.ref fI) = some (.type "function"))
    (F1 : FnOk X.prog X.w X.K X.mg X.base CX k fI fd ["self", "line"] sp) (hr : Room (k + 1) X.A) (hb : ∀ (s : Shared) (o u : Value), BindsTo s fd ⟨[o], [("line", u)]⟩ [("self", o), ("line", u)]) (hx : Passes CX X (fun _ _ _ => False)) (hg : Gl X x) (hm : X.mg x = some (.ref C)) (he : PE X e te)
    (hdb : (x == ("__debug__" : Str)) = false := by decide) (hall : (backToKw pos (keywordEach [⟨some "line", e, kpos⟩] X.env)).all (·.1.isSome) = true := by rfl) (hks : (backToKw pos (keywordEach [⟨some "line", e, kpos⟩] X.env)).filterMap (·.1) = [("line" : Str)] := by rfl)
    (hpl : ((backTo pos (starEach [] X.env)).any (·.1) || (backToKw pos (keywordEach [⟨some "line", e, kpos⟩] X.env)).any (·.1.isNone)) = false := by rfl) :
    PMk X (.Call (.Name x p) [] [⟨some "line", e, kpos⟩] pos) (tMkK C sp te) := by
  intro pins s σ H Q I h
  obtain ⟨nm, q, N, bs, bm, sn, sub, ab, col, dd, k0, k1, k2, k3, k5, hC, hbm⟩ := T.cls
  refine wpAny_Call_Name_kw (ld_glob I hg hm ?_ hdb)
  refine PySem.W.callWith_KW0 (h₀ := X.base) I.ok.mod.kin T.kC hall (thn ((pk_cons (nm := some "line") (kpos := kpos) he pk_nil).run pos pins s σ H _ I h) fun us s1 ⟨vs, H1, I1, r1, v, ev, q1⟩ => ⟨I1.kIn, ?_⟩) hpl
  subst ev
  rw [hks]
  obtain ⟨u, rfl⟩ : ∃ u, us = [u] := by
    cases r1 with
    | cons _ r => cases r; exact ⟨_, rfl⟩
  show wpAny _ _ (call (.ref C) [] [(("line" : Str), u)]) _ _ _
  obtain ⟨hp, g, dr, tk, os⟩ := s1
  have up : hp.objs.size ≤ hp.objs.size + 1 := Nat.le_succ _
  have fresh : H1 (hp.objs.size + 1) = none := I1.hok.fresh up
  have hq := q1 (hp.objs.size + 1) fresh
  have stay : ∀ b o, hp.get? b = some o → ((hp.push (PySem.W.kdv_tup [])).push (PySem.HandSPX.excO C hp.objs.size)).get? b = some o := fun b o y => Heap.get?_push_of_some _ (Heap.get?_push_of_some _ y)
  have made : ((hp.push (PySem.W.kdv_tup [])).push (PySem.HandSPX.excO C hp.objs.size)).get? (hp.objs.size + 1) = some (PySem.HandSPX.excO C hp.objs.size) := by heap_get
  have J : Inv X pins σ (upd H1 (hp.objs.size + 1) (exo (hp.objs.size + 1) C none)) ⟨(hp.push (PySem.W.kdv_tup [])).push (PySem.HandSPX.excO C hp.objs.size), g, dr, tk, os⟩ := I1.laid (t' := tk) stay up (exo_ok made)
  have r2 : Vals [V.ref (hp.objs.size + 1), v] [Value.ref (hp.objs.size + 1), u] := .cons rfl r1
  refine wpAny_call (kw_call PySem.F.excBase_ValueError (fun Y => PySem.HandSPX.refsVE_contains Y bm hbm) (I1.kIn _ _ hC) (PySem.W.looks_findIn I1.kIn iC) (fun self => PySem.W.bind_fn I1.kIn self tI)
    (codeAny_mono (F1.run _ X.stack _ _ ⟨[Value.ref (hp.objs.size + 1)], [("line", u)]⟩ [Value.ref (hp.objs.size + 1), u] _ _ (fun _ _ _ => False) (hr.make C [] [("line", u)]) (J.env0.make C [] [("line", u)]) (hb _ _ _) r2 hq) fun r s' hq' => ?_))
  cases r with
  | error er => exact hx pins σ _ _ er s' J hq'
  | ok fl =>
    cases fl with
    | ret y =>
      obtain ⟨v', H2, os2, bare2, un2, hok2, rv, ev, d, fs, ea, ed, hd1, q2⟩ := hq'
      subst ev
      obtain ⟨h2, g2, d2, t2, os'⟩ := s'
      exact ⟨rv, mk_end (raises_own T.exC T.tyC) I1 up stay un2 hok2 os2 bare2 ea ed hd1 q2⟩
    | next => exact False.elim hq'
    | brk => exact False.elim hq'
    | cont => exact False.elim hq'
end
end Vf

set_option Elab.async false
set_option linter.all false
set_option maxRecDepth 100000
set_option maxHeartbeats 4000000
/-! Vx3: errors as values, lists of errors: the rules. -/
namespace Vf
open PySem PySem.Spec PyProof.Rows L2
/-- C(e), C without an __init__ of its own -/
def mMk (c : Nat) (me : ME) : ME := fun S => (me S).bind fun _ S1 => .ok (.exc c none) S1
/-- C(e) or C(line = e), C keeps a line -/
def mMkL (c : Nat) (me : ME) : ME := fun S => (me S).bind fun w S1 => match w with
  | .d (.int n) => if n.natAbs.log2 < 1920 then .ok (.exc c (some n)) S1 else .bad
  | _ => .bad
/-- a class of errors whose __init__ keeps a line, called with the keyword line too -/
structure ClsK (P : Program) (w : World) (K : PySem.W.Frag) (mg : Str → Option Value) (base : Heap) (x : Str) (D : Addr) : Prop where
  T : OexC K D
  g : mg x = some (.ref D)
  no : PySem.W.findIn K (.ref D) "line" = some none
  ini : ∃ (fI : Addr) (fd : FuncData), PySem.W.findIn K (.ref D) "__init__" = some (some (.ref fI)) ∧ PySem.W.typeIn K (.ref fI) = some (.type "function") ∧ Binds K fd ["self", "line"] [] ∧ (∀ (s : Shared) (o u : Value), BindsTo s fd ⟨[o], [("line", u)]⟩ [("self", o), ("line", u)]) ∧ FnOk P w K mg base (L2.CX P w) 1 fI fd ["self", "line"] (spLine K D)
section
variable {C : Cn} {Wx : WX} {X : Cx} {x cn : Str} {e : Expr} {es : List Expr} {me : ME} {ms : MA} {p p1 q pos pos2 kpos : Pos} {ow mu : List Addr} {σ : L2.St} {H : Hp} {S : Sx} {Q : VK}
theorem shp_mk {c : Nat} (h : ShpM me) : ShpM (mMk c me) := shp_bind h fun _ => shp_ok
theorem shp_mkL {c : Nat} (h : ShpM me) : ShpM (mMkL c me) := shp_bind h fun w => by
  intro S w' S' e
  split at e
  · split at e
    · cases e; exact Shp.refl S
    · cases e
  · cases e
theorem je_mk {c : Nat} {bmB : List Value} {B newId initId : String} (F : ExcBaseFacts B newId initId bmB) (q : PySem.W.excIn X.K (C.cls c) bmB newId = true) (gC : X.mg x = some (.ref (C.cls c))) (kC : PySem.W.keepIn X.K (.ref (C.cls c)) = true)
    (he : JE C Wx X e me) (hg : Gl X x := by rfl) (hs : starEach [e] X.env = (false, eval e X.env) :: starEach [] X.env := by rfl) (hdb : (x == ("__debug__" : Str)) = false := by decide) : JE C Wx X (.Call (.Name x p) [e] [] pos) (mMk c me) where
  pe := (pe_exc1 F q gC kC hg he.pe hs hdb).weak fun σ H Q ⟨ow, mu, S, R, h⟩ => by
    refine ⟨ow, mu, S, R, Post.bind R.sub h fun w S1 v1 H1 ow1 e1 g1 p1 R1 k1 h1 => fun a ha => ?_⟩
    exact (Res.of h1 R1) (.ref a) _ ow1 (Grow.refl _ _) (sub_upd ha) (trk_upd R1) ⟨a, rfl, _, none, hid_at (new_out R1 ha) upd_same, fun h ⟨oe, vs, g, z, dv, _⟩ => ⟨oe, vs, g, z, dv⟩, rfl⟩ (fun _ e => nomatch e)
  shp := shp_mk he.shp
theorem made_errL {c : Nat} {n : Int} {S1 : Sx} {ow1 : List Addr} {H1 : Hp} (R1 : Rel C ow1 mu σ H1 S1) (h1 : Post C Wx ow1 mu σ H1 (.ok (W.exc c (some n)) S1) Q) {a dx : Addr} (ha : H1 a = none) (ne : dx ≠ a) (hd : H1 dx = none) (a' : Addr) (ha' : (upd (del (upd (upd (upd H1 a (exo a (C.cls c) none)) dx (exd dx [(("line" : Str), .int n)])) a (exo a (C.cls c) (some dx))) a) dx (.xd [(("line" : Str), .int n)])) a' = none) :
    Q (.ref a') (upd (upd (del (upd (upd (upd H1 a (exo a (C.cls c) none)) dx (exd dx [(("line" : Str), .int n)])) a (exo a (C.cls c) (some dx))) a) dx (.xd [(("line" : Str), .int n)])) a' (exOd (.ref (C.cls c)) (some dx) a')) := by
  rw [made_heap ha ne] at ha' ⊢
  have sb := sub_new (o := .xd [(("line" : Str), .int n)]) hd
  have sb2 := sub_new (o := exOd (.ref (C.cls c)) (some dx) a') ha'
  have R2 : Rel C ow1 mu σ (upd H1 dx (.xd [(("line" : Str), .int n)])) S1 := R1.grow sb (Grow.refl _ _) (trk_grow R1.trk sb)
  have nd : dx ≠ a' := fun z => by rw [z, upd_same] at ha'; cases ha'
  exact (Res.of h1 R1) (.ref a') _ ow1 (Grow.refl _ _) (fun b o z => sb2 b o (sb b o z)) (trk_grow R2.trk sb2) ⟨a', rfl, _, some dx, hid_at (new_out R2 ha') upd_same, fun h z => z, dx, rfl, hid_at (new_out R1 hd) (by rw [upd_ne nd, upd_same])⟩ (fun _ e => nomatch e)
theorem je_mkL {c : Nat} (hx : Hx C X) (tk : Takes X Wx) (L : ClsK X.prog X.w X.K X.mg X.base x (C.cls c)) (hr : Room 2 X.A) (he : JE C Wx X e me)
    (hg : Gl X x := by rfl) (hdb : (x == ("__debug__" : Str)) = false := by decide) (hs : starEach [e] X.env = [(false, eval e X.env)] := by rfl) : JE C Wx X (.Call (.Name x p1) [e] [] pos2) (mMkL c me) where
  pe := by
    obtain ⟨fI, fd, iC, tI, hb, _, F1⟩ := L.ini
    refine (pe_of_pmk (pmk_oex (ds := []) (dvs := []) L.T iC tI F1 hr hb .nil (passes_call tk fun _ _ _ _ z => z.elim) hg L.g (pa_cons he.pe pa_nil hs) hdb hs)).weak fun σ H Q ⟨ow, mu, S, R, h⟩ => ?_
    refine ⟨ow, mu, S, R, Post.bind R.sub h fun w S1 v H1 ow1 e1 g1 p1 R1 k1 h1 => ⟨(show 1 ≤ 1000 by decide), fun a ha => ?_⟩⟩
    cases w with
    | d d =>
      cases d with
      | int n =>
        replace h1 : Post C Wx ow1 mu σ H1 (if n.natAbs.log2 < 1920 then .ok (W.exc c (some n)) S1 else .bad) Q := h1
        by_cases hn : n.natAbs.log2 < 1920
        · rw [if_pos hn] at h1
          have ev : v = .int n := Rp.int_inv k1.1
          subst ev
          refine ⟨a, n, rfl, hn, L.T, L.no, upd_same, fun dx hd ne => ⟨rfl, dx, [(("line" : Str), .int n)], upd_same, ?_, ?_, fun a' ha' => ?_⟩⟩
          · rw [upd_ne ne, upd_same]
          · rw [upd_ne ne] at hd
            exact hd
          · rw [upd_ne ne] at hd
            exact made_errL R1 h1 ha ne hd a' ha'
        · rw [if_neg hn] at h1
          exact h1.elim
      | _ => exact h1.elim
    | _ => exact h1.elim
  shp := shp_mkL he.shp
theorem je_mkK {c : Nat} (hx : Hx C X) (tk : Takes X Wx) (L : ClsK X.prog X.w X.K X.mg X.base x (C.cls c)) (hr : Room 2 X.A) (he : JE C Wx X e me)
    (hg : Gl X x := by rfl) (hdb : (x == ("__debug__" : Str)) = false := by decide) (hall : (backToKw pos (keywordEach [⟨some "line", e, kpos⟩] X.env)).all (·.1.isSome) = true := by rfl) (hks : (backToKw pos (keywordEach [⟨some "line", e, kpos⟩] X.env)).filterMap (·.1) = [("line" : Str)] := by rfl)
    (hpl : ((backTo pos (starEach [] X.env)).any (·.1) || (backToKw pos (keywordEach [⟨some "line", e, kpos⟩] X.env)).any (·.1.isNone)) = false := by rfl) : JE C Wx X (.Call (.Name x p1) [] [⟨some "line", e, kpos⟩] pos) (mMkL c me) where
  pe := by
    obtain ⟨fI, fd, iC, tI, _, hb, F1⟩ := L.ini
    refine (pe_of_pmk (pmk_kw L.T iC tI F1 hr hb (passes_call tk fun _ _ _ _ z => z.elim) hg L.g he.pe hdb hall hks hpl)).weak fun σ H Q ⟨ow, mu, S, R, h⟩ => ?_
    refine ⟨ow, mu, S, R, Post.bind R.sub h fun w S1 v H1 ow1 e1 g1 p1 R1 k1 h1 => ⟨v, rfl, fun a ha => ?_⟩⟩
    cases w with
    | d d =>
      cases d with
      | int n =>
        replace h1 : Post C Wx ow1 mu σ H1 (if n.natAbs.log2 < 1920 then .ok (W.exc c (some n)) S1 else .bad) Q := h1
        by_cases hn : n.natAbs.log2 < 1920
        · rw [if_pos hn] at h1
          have ev : v = .int n := Rp.int_inv k1.1
          subst ev
          refine ⟨a, n, rfl, hn, L.T, L.no, upd_same, fun dx hd ne => ⟨rfl, dx, [(("line" : Str), .int n)], upd_same, ?_, ?_, fun a' ha' => ?_⟩⟩
          · rw [upd_ne ne, upd_same]
          · rw [upd_ne ne] at hd
            exact hd
          · rw [upd_ne ne] at hd
            exact made_errL R1 h1 ha ne hd a' ha'
        · rw [if_neg hn] at h1
          exact h1.elim
      | _ => exact h1.elim
    | _ => exact h1.elim
  shp := shp_mkL he.shp
/-! lists of errors -/
theorem Res.newX {es : List (Nat × Option Int)} {vs : List V} {p : Addr} (q : Res C ow mu σ H S (.xv (.errs es)) Q) (r : Rel C ow mu σ H S) (h : ErrAll C (hid ow H) vs es) (hp : H p = none) : Q (.ref p) (upd H p (.lst vs)) :=
  q (.ref p) _ ow (Grow.refl H ow) (sub_upd hp) (trk_upd r) ⟨p, vs, rfl, hid_at (new_out r hp) upd_same, h.mono (hid_pres r.sub (Pres.of (sub_upd hp)))⟩ (fun _ e => nomatch e)
def errsOf : List W → Option (List (Nat × Option Int))
  | [] => some []
  | .exc c l :: ws => (errsOf ws).map fun es => (c, l) :: es
  | _ :: _ => none
theorem errsOf_ok {ow ow' : List Addr} (s : ∀ b ∈ ow, b ∈ ow') : ∀ {vs : List V} {wl : List W} {es : List (Nat × Option Int)}, WAll C ow ow' mu σ H S vs wl → errsOf wl = some es → ErrAll C (hid ow H) vs es
  | _, _, _, .nil, e => by cases e; exact .nil
  | _, _, _, .cons (w := w) (ws := ws) h n k, e => by
    cases w with
    | exc c l =>
      cases e1 : errsOf ws with
      | none =>
        replace e : (errsOf ws).map (fun es => (c, l) :: es) = some _ := e
        rw [e1] at e; cases e
      | some fs =>
        replace e : (errsOf ws).map (fun es => (c, l) :: es) = some _ := e
        rw [e1] at e
        cases e
        obtain ⟨a, rfl, q⟩ := h
        exact .cons (excV_mono (hid_anti s) q) (errsOf_ok s k e1)
    | _ => cases e
def mErrs (ms : MA) : ME := fun S => (ms S).bind fun wl S1 => match errsOf wl with
  | some es => if es.length ≤ 16777216 then .ok (.xv (.errs es)) S1 else .bad
  | none => .bad
theorem shp_errs (h : ShpM ms) : ShpM (mErrs ms) := shp_bind h fun wl => by
  intro S w S' e
  split at e
  · split at e
    · cases e; exact Shp.refl S
    · cases e
  · cases e
theorem je_errs (h : JA C Wx X es ms) : JE C Wx X (.List es pos) (mErrs ms) where
  pe := (pe_lst h.pa).weak fun σ H Q ⟨ow, mu, S, R, q⟩ => by
    refine ⟨ow, mu, S, R, Post.bind0 (Grow.refl H ow) (Pres.refl H) R.sub q fun wl S1 vs H1 ow1 e1 g1 p1 R1 k1 h1 => ?_⟩
    cases ea : errsOf wl with
    | none => rw [ea] at h1; exact h1.elim
    | some ds =>
      rw [ea] at h1
      dsimp only at h1
      by_cases hz : ds.length ≤ 16777216
      · rw [if_pos hz] at h1
        have rp := errsOf_ok g1.1 k1 ea
        have Rl : Rel C ow mu σ H1 S1 := R1.less g1.1 R.sub R.paH R.gro.1
        exact ⟨szl (by rw [rp.length]; exact hz), fun p hp => (Res.of (Post.shift ((Grow.refl H ow).trans p1 R.sub (Grow.refl H1 ow)) p1 R.sub h1) Rl).newX Rl rp hp⟩
      · rw [if_neg hz] at h1; exact h1.elim
  shp := shp_errs h.shp
def xview : W → Option (List (Nat × Option Int))
  | .xv (.errs es) => some es
  | .d (.list []) => some []
  | _ => none
theorem xview_ok {v : V} {w : W} {es : List (Nat × Option Int)} (r : Rel C ow mu σ H S) (h : WOk C ow mu σ H S v w) (e : xview w = some es) : ∃ a vs, v = .ref a ∧ H a = some (.lst vs) ∧ ErrAll C (hid ow H) vs es := by
  cases w with
  | xv y =>
    cases y with
    | errs fs =>
      obtain rfl : fs = es := Option.some.inj e
      obtain ⟨a, vs, e1, h1, h2⟩ := h
      exact ⟨a, vs, e1, hid_sub _ _ h1, h2⟩
    | rng n => cases e
  | d x =>
    cases x with
    | list ds =>
      cases ds with
      | nil =>
        cases e
        obtain ⟨a, xs, e1, h1, h2⟩ := lview_ok (ds := []) r h rfl
        cases h2
        exact ⟨a, [], e1, h1, .nil⟩
      | cons _ _ => cases e
    | _ => cases e
  | _ => cases e
def gCatX : Sx → W → W → Option W := fun _ a b => match xview a, xview b with
  | some x, some y => if x.length + y.length ≤ 16777216 then some (.xv (.errs (x ++ y))) else none
  | _, _ => none
theorem o_catX : Op2 C rCat gCatX := fun ow mu σ H S v1 w1 v2 w2 w Q R k1 k2 e q => by
  unfold gCatX at e
  split at e
  · rename_i x y h1 h2
    split at e
    · rename_i hc
      cases e
      obtain ⟨a, xs, rfl, ha, ra⟩ := xview_ok R k1 h1
      obtain ⟨b, ys, rfl, hb, rb⟩ := xview_ok R k2 h2
      exact ⟨a, b, xs, ys, rfl, rfl, ha, hb, szl (by rw [ra.length, rb.length]; exact hc), fun p hp => q.newX R (ErrAll.append rb ra) hp⟩
    · cases e
  · cases e
theorem atI_err {G : Hp} {vs : List V} {es : List (Nat × Option Int)} {i : Int} {d : Nat × Option Int} (r : ErrAll C G vs es) (h : atI es i = some d) : ∃ a, atI vs i = some (.ref a) ∧ ExcV C G d.1 d.2 a := by
  have get : ∀ {vs : List V} {es : List (Nat × Option Int)} {j : Nat}, ErrAll C G vs es → es[j]? = some d → ∃ a, vs[j]? = some (.ref a) ∧ ExcV C G d.1 d.2 a := by
    intro vs es j r
    induction r generalizing j with
    | nil => intro h; simp at h
    | cons q r ih =>
      intro h
      cases j with
      | zero => cases h; exact ⟨_, rfl, q⟩
      | succ j => exact ih h
  unfold atI at h ⊢
  cases e : ixN es.length i with
  | none => rw [e] at h; cases h
  | some j =>
    rw [e] at h
    rw [r.length, e]
    exact get r h
def gIxX : Sx → W → W → Option W := fun _ a b => match xview a, wi b with
  | some es, some i => (atI es i).map fun d => .exc d.1 d.2
  | _, _ => none
theorem o_ixX : Op2 C (rIxL C.K) gIxX := fun ow mu σ H S v1 w1 v2 w2 w Q R k1 k2 e q => by
  unfold gIxX at e
  split at e
  · rename_i es i h1 h2
    cases ea : atI es i with
    | none => rw [ea] at e; cases e
    | some d =>
      rw [ea] at e
      cases e
      obtain ⟨a, vs, rfl, ha, ra⟩ := xview_ok R k1 h1
      obtain ⟨b, h3, h4⟩ := atI_err ra ea
      exact ⟨a, vs, i, .ref b, rfl, wi_ok k2 h2, .inl (.inl ha), h3, q (.ref b) H ow (Grow.refl H ow) (Sub.refl H) R.trk ⟨b, rfl, h4⟩ fun _ z => nomatch z⟩
  · cases e
def gLenX : Sx → List W → Option W
  | _, [w] => (xview w).map fun es => .d (.int es.length)
  | _, _ => none
theorem o_lenX : Opn C (fun xs H Q => ∃ x n, xs = [x] ∧ LenV C.K x H n ∧ Q (.int n) H) gLenX := fun ow0 ow mu σ H S vs wl w Q R k e q => by
  match wl, k, e with
  | [u], k, e =>
    obtain ⟨v, rfl, k1⟩ := wall1 k
    replace e : (xview u).map (fun es => W.d (.int es.length)) = some w := e
    cases h1 : xview u with
    | none => rw [h1] at e; cases e
    | some es =>
      rw [h1] at e
      cases e
      obtain ⟨a, vs, rfl, ha, ra⟩ := xview_ok R k1 h1
      exact ⟨.ref a, vs.length, rfl, .inl ⟨vs, .inl (.inl ha), rfl⟩, by rw [ra.length]; exact q.flat R (.int _)⟩
  | [], _, e => cases e
  | _ :: _ :: _, _, e => cases e
/-! isinstance of a built-in class -/
def gIsXB (n : Nat) : Sx → W → Option W := fun _ w => match w with
  | .exc c _ => if c < n then some (.d (.bool true)) else none
  | _ => none
theorem je_isXB {T : String} {n : Nat} {sub : Nat → Nat → Option Bool} (hx : Hx C X) (kit : KitOf C.K C.cls sub) (hs0 : ∀ c, c < n → ∃ b, sub c 0 = some b) (one : ∀ c, c < n → PySem.W.kitOne C.K (.ref (C.cls c)) (.type T) = some true) (he : JE C Wx X e me) (hg : Gl X "isinstance") (hm : X.mg "isinstance" = none) (hs : starEach (e :: [.Name cn q]) X.env = (false, eval e X.env) :: starEach [.Name cn q] X.env := by rfl) (hpl : (backTo pos (starEach [.Name cn q] X.env)).any (·.1) = false := by rfl) (hT' : PE X (.Name cn q) (tC (.ty T))) :
    JE C Wx X (.Call (.Name "isinstance" p) [e, .Name cn q] [] pos) (mUn (gIsXB n) me) where
  pe := (pe_callB (call_isXD (X := X)) hg hm (by decide +kernel) (pa_cons he.pe (pa_cons hT' pa_nil) hs) (by decide) (by decide) hs hpl).weak fun σ H Q ⟨ow, mu, S, R, h⟩ => by
    refine ⟨ow, mu, S, R, Post.bind R.sub h fun w S1 v1 H1 ow1 e1 g1 p1 R1 k1 h1 => ?_⟩
    obtain ⟨z, e3, h3⟩ := Post.of h1
    unfold gIsXB at e3
    split at e3
    · rename_i c l
      split at e3
      · rename_i hc
        cases e3
        obtain ⟨b0, hb0⟩ := hs0 c hc
        obtain ⟨ec, _⟩ := kit _ _ _ hb0
        obtain ⟨a, rfl, φ, d, a1, a2, a3⟩ := k1.1
        rw [hx.hK]
        refine ⟨a, _, d, φ, .ty T, .type T, true, rfl, hid_sub _ _ a1, a2, fun dd ed => ?_, ec, fun u ru => ru, one c hc, h3.now R1 ⟨.bl _, WNew.d⟩⟩
        cases l with
        | none => cases a3.symm.trans ed
        | some n =>
          obtain ⟨d2, e2, e4⟩ := a3
          cases e2.symm.trans ed
          exact ⟨_, hid_sub _ _ e4⟩
      · cases e3
    · cases e3
  shp := shp_un he.shp
end
/-! the head's facts -/
def kitvB (xs : List Str) (T : String) (K : PySem.W.Frag) : Bool := (List.range xs.length).all fun c => decide (PySem.W.kitOne K (.ref (clsOf K xs c)) (.type T) = some true)
theorem kitv_ok {K : PySem.W.Frag} {xs : List Str} {T : String} (h : kitvB xs T K = true) : ∀ c, c < xs.length → PySem.W.kitOne K (.ref (clsOf K xs c)) (.type T) = some true := fun c hc => of_decide_eq_true (List.all_eq_true.mp h c (List.mem_range.mpr hc))
theorem defMk {K : PySem.W.Frag} {fa : List He.Fa} {fn : List He.DefD} (c : He.SaysD fa fn K) {x m qual : Str} {st : Stmt} (hd : dfnM x m qual st ∈ fn)
    (hb : ∀ (kV doc pm : Value) (an : Option Addr) (cdv ct : Value) (us : List Value), us.length = 2 → bindArgs (PySem.W.fnOf m qual (defArgs st) (defBody st) (defScope st) .none kV doc pm an cdv ct) ⟨us, []⟩ = pure ((["self", "line"] : List Str).zip us))
    (hk : ∀ (kV doc pm : Value) (an : Option Addr) (cdv ct o u : Value), bindArgs (PySem.W.fnOf m qual (defArgs st) (defBody st) (defScope st) .none kV doc pm an cdv ct) ⟨[o], [(("line" : Str), u)]⟩ = pure [(("self" : Str), o), (("line" : Str), u)]) :
    ∃ fd, Fun K m qual st (He.ma K (He.ga K x) m) fd ∧ Binds K fd ["self", "line"] [] ∧ ∀ (s : Shared) (o u : Value), BindsTo s fd ⟨[o], [("line", u)]⟩ [("self", o), ("line", u)] := by
  obtain ⟨fd, F⟩ := c.defs hd
  replace F : FunD K m qual (defArgs st) (defBody st) (defScope st) [] [] (He.ma K (He.ga K x) m) fd := F
  refine ⟨fd, fun_ofM F, F.bindsN hb, fun s o u => ?_⟩
  obtain ⟨oc, od, dV, kV, doc, pm, an, cdv, ct, osl, e, lk, hcd, hD, _⟩ := F.ex
  rcases hD with ⟨_, rfl⟩ | ⟨z, _⟩
  · rw [e]
    exact .of_eq (hk _ _ _ _ _ _ _ _)
  · exact absurd rfl z
end Vf

set_option Elab.async false
set_option linter.all false
set_option maxRecDepth 100000
set_option maxHeartbeats 4000000
/-! Vx4: a range that a name holds, walked. -/
namespace Vf
open PySem PySem.Spec PyProof.Rows L2
section
variable {X : Cx} {tg l : Expr} {tl : TE}
theorem cr_range1 : CallR X (.type "range") (fun vs H Q => ∃ n : Int, vs = [V.int n] ∧ ∀ p, H p = none → Q (.ref p) (upd H p (.rng 0 n))) := by
  intro pins s σ H vs us Q I r h
  obtain ⟨n, rfl, q⟩ := h
  cases r with
  | cons r1 r2 =>
    cases r2
    obtain ⟨t, rfl⟩ := r1
    refine call_range_1 ⟨.ref s.heap.objs.size, upd H s.heap.objs.size (.rng 0 n), I.laid (t' := s.toks + 1 + 1) (fun b o e => Heap.get?_push_of_some _ e) (Nat.le_refl _) ?_, rfl, q _ (I.hok.fresh (Nat.le_refl _))⟩
    exact ⟨s.toks, t, s.toks + 1, Heap.get?_push_size _ rfl⟩
def iRngV (tl : TE) : TI := fun σ H R => tl σ H fun x H1 => ∃ (a : Addr) (n : Nat), x = .ref a ∧ H1 a = some (.rng 0 n) ∧ n < 2 ^ 62 ∧ R (Itr 0 n) H1
theorem pi_rngV (hl : PE X l tl) : PI X tg l (iRngV tl) := by
  refine ⟨fun pins s σ H R I h => thn (hl.run pins s σ H _ I h) fun v s1 ⟨x, H1, I1, r1, a, n, ex, ha, hn, q⟩ => ?_⟩
  subst ex
  cases r1
  obtain ⟨t, u, v, g⟩ := I1.hok a _ ha
  refine wpAny_pyIter_range (show IsRange s1.heap a 0 (n : Int) 1 t u v from g) (small_one (by omega) (by omega) (by omega) (by omega)) ?_
  refine ⟨s1.heap.objs.size, [s1.heap.objs.size], _, _, H1, rfl, I1.kept (t' := s1.toks) fun b o e => Heap.get?_push_of_some _ e, turn_range _ 0 n, ?_, fun b hb => ?_, q⟩
  · have e1 : (0 : Int) + ((0 : Nat) : Int) * 1 = 0 := by simp
    have e2 : ((n : Nat) : Int) - ((0 : Nat) : Int) = Builtin.Range.rangeSize 0 (n : Int) 1 := by rw [rangeSize_one]; split <;> omega
    show IsRangeIter _ _ ((0 : Int) + ((0 : Nat) : Int) * 1) (((n : Nat) : Int) - ((0 : Nat) : Int)) 1
    rw [e1, e2]
    exact Heap.get?_push_size _ rfl
  · have e : b = s1.heap.objs.size := by simpa using hb
    subst e
    exact I1.fpOk (Nat.le_refl _) (I1.hok.fresh (Nat.le_refl _))
end
section
variable {C : Cn} {Wx : WX} {X : Cx} {a tg : Expr} {ma : ME}
def gRng : Sx → List W → Option W
  | _, [w] => match wi w with
    | some j => if 0 ≤ j ∧ j < 2 ^ 62 then some (.xv (.rng j.toNat)) else none
    | none => none
  | _, _ => none
theorem o_rng : Opn C (fun vs H Q => ∃ n : Int, vs = [V.int n] ∧ ∀ p, H p = none → Q (.ref p) (upd H p (.rng 0 n))) gRng := fun ow0 ow mu σ H S vs wl w Q R k e q => by
  match wl, k, e with
  | [u], k, e =>
    obtain ⟨v, rfl, k1⟩ := wall1 k
    replace e : (match wi u with
      | some j => if 0 ≤ j ∧ j < 2 ^ 62 then some (W.xv (.rng j.toNat)) else none
      | none => none) = some w := e
    cases h1 : wi u with
    | none => rw [h1] at e; cases e
    | some j =>
      rw [h1] at e
      dsimp only at e
      split at e
      · rename_i hj
        cases e
        have ej : ((j.toNat : Nat) : Int) = j := Int.toNat_of_nonneg hj.1
        refine ⟨j, by rw [wi_ok k1 h1], fun p hp => q (.ref p) _ ow (Grow.refl H ow) (sub_upd hp) (trk_upd R) ⟨p, rfl, by rw [ej]; exact hid_at (new_out R hp) upd_same⟩ fun _ z => nomatch z⟩
      · cases e
  | [], _, e => cases e
  | _ :: _ :: _, _, e => cases e
def itX : W → Option (List PyData)
  | .xv (.rng n) => if n < 2 ^ 62 then some (rngD 0 n) else none
  | _ => none
def mItX (ma : ME) : MI := fun S => (ma S).bind fun w S1 => RE.of (itX w) S1
theorem ji_rngV (h : JE C Wx X a ma) : JI C Wx X tg a (mItX ma) where
  pi := by
    have := pi_rngV (tg := tg) h.pe
    refine ⟨fun pins s σ H Rr I ⟨ow, mu, S, R, q⟩ => this.run pins s σ H Rr I ⟨ow, mu, S, R, Post.bind R.sub q fun w S1 v H1 ow1 e1 g1 p1 R1 k1 h1 => ?_⟩⟩
    obtain ⟨ds, e2, h2⟩ := Post.ofG h1
    unfold itX at e2
    split at e2
    · rename_i n
      split at e2
      · rename_i hb
        cases e2
        obtain ⟨p, rfl, hp⟩ := k1.1
        exact ⟨p, n, rfl, hid_sub _ _ hp, hb, h2.now R1 (walks_rng 0 n)⟩
      · cases e2
    · cases e2
  shp := shp_bind h.shp fun _ => shp_of
end
end Vf

set_option Elab.async false
set_option linter.all false
set_option maxRecDepth 100000
set_option maxHeartbeats 4000000
namespace K01
open PySem PySem.Spec PyProof.Rows L2 Vf
def subT : Nat → Nat → Option Bool := fun c d => if c < 3 ∧ d < 3 then some (c == d || d == 0) else none
def m_is_integer : MS :=
    mRet (mAndV (mUn (gIsi .int) (mVar 0)) (mNotV (mUn (gIsi .bl) (mVar 0))))
def F_is_integer : PF := ofBody 0 m_is_integer
def m_is_integer_to : MS :=
    mRet (mAndV (mCall 1 F_is_integer (mCons (mVar 0) (mNil))) (mChain gLe gLe (mC (.int 0)) (mVar 0) (mVar 1)))
def F_is_integer_to : PF := ofBody 0 m_is_integer_to
def m_is_index : MS :=
    mRet (mCall 2 F_is_integer_to (mCons (mVar 0) (mCons (mBin gSub (mVar 1) (mC (.int 1))) (mNil))))
def F_is_index : PF := ofBody 0 m_is_index
def m_are_indexes : MS :=
    mRet (mAndV (mUn (gIsi .tup) (mVar 0)) (mFn gAll (mCons (mComp (.one 2) [2] (mItT (mVar 0)) (mYes) (mCall 2 F_is_index (mCons (mVar 2) (mCons (mVar 1) (mNil))))) (mNil))))
def F_are_indexes : PF := ofBody 1 m_are_indexes
def m_are_lines : MS :=
    mSeq (mIfS (mOrT (mNotT (mTest (mCall 2 F_are_indexes (mCons (mVar 0) (mCons (mVar 1) (mNil)))))) (mTest (mBin gEq (mFn gLen (mCons (mVar 0) (mNil))) (mC (.int 0))))) (mRet (mC (.bool false))) (mSkip))
    (mRet (mBin gEq (mUn gLenSet (mVar 0)) (mFn gLen (mCons (mVar 0) (mNil)))))
def F_are_lines : PF := ofBody 0 m_are_lines
def m_is_row : MS :=
    mSeq (mIfS (mOrT (mNotT (mTest (mUn (gIsi .str) (mVar 0)))) (mNotT (mTest (mChain gLe gLe (mC (.int 1)) (mFn gLen (mCons (mVar 0) (mNil))) (mC (.int 8)))))) (mRet (mC (.bool false))) (mSkip))
    (mRet (mFn gAll (mCons (mComp (.one 1) [1] (mItS (mVar 0)) (mYes) (mBin (gIn false) (mVar 1) (mTup (mCons (mC (.str "x")) (mCons (mC (.str ".")) (mNil)))))) (mNil))))
def F_is_row : PF := ofBody 1 m_is_row
def m_is_table : MS :=
    mSeq (mIfS (mOrT (mNotT (mTest (mUn (gIsi .tup) (mVar 0)))) (mNotT (mTest (mChain gLe gLe (mC (.int 1)) (mFn gLen (mCons (mVar 0) (mNil))) (mC (.int 8)))))) (mRet (mC (.bool false))) (mSkip))
    (mSeq (mIfS (mNotT (mTest (mFn gAll (mCons (mComp (.one 1) [1] (mItT (mVar 0)) (mYes) (mCall 1 F_is_row (mCons (mVar 1) (mNil)))) (mNil))))) (mRet (mC (.bool false))) (mSkip))
    (mRet (mFn gAll (mCons (mComp (.one 1) [1] (mItT (mVar 0)) (mYes) (mBin gEq (mFn gLen (mCons (mVar 1) (mNil))) (mFn gLen (mCons (mBin gIxT (mVar 0) (mC (.int 0))) (mNil))))) (mNil)))))
def F_is_table : PF := ofBody 1 m_is_table
def m_check_table : MS :=
    mIfS (mNotT (mTest (mCall 1 F_is_table (mCons (mVar 0) (mNil))))) (mRaise 2) (mSkip)
def F_check_table : PF := ofBody 0 m_check_table
def m_signs_at : MS :=
    mRet (mM1 gJoin (mC (.str "")) (mComp (.one 2) [2] (mItT (mVar 1)) (mYes) (mBin gIxS (mVar 0) (mVar 2))))
def F_signs_at : PF := ofBody 1 m_signs_at
def m_places_of : MS :=
    mSeq (mSet 2 (mFn gRng (mCons (mFn gLen (mCons (mBin gIxT (mVar 0) (mC (.int 0))) (mNil))) (mNil))))
    (mRet (mComp2 (.one 3) (.one 4) [3, 4] [4] (mItR1 (mFn gLen (mCons (mVar 0) (mNil)))) (mYes) (mItX (mVar 2)) (mTest (mBin gEq (mBin gIxS (mBin gIxT (mVar 0) (mVar 3)) (mVar 4)) (mVar 1))) (mTup (mCons (mVar 3) (mCons (mVar 4) (mNil))))))
def F_places_of : PF := ofBody 3 m_places_of
def m_turned : MS :=
    mSeq (mExpr (mCall 1 F_check_table (mCons (mVar 0) (mNil))))
    (mRet (mFn gTuple (mCons (mComp (.one 1) [1] (mItZ (mVar 0)) (mYes) (mM1 gJoin (mC (.str "")) (mVar 1))) (mNil))))
def F_turned : PF := ofBody 1 m_turned
def m_part : MS :=
    mSeq (mExpr (mCall 1 F_check_table (mCons (mVar 0) (mNil))))
    (mSeq (mIfS (mOrT (mNotT (mTest (mCall 2 F_are_lines (mCons (mVar 1) (mCons (mFn gLen (mCons (mVar 0) (mNil))) (mNil)))))) (mNotT (mTest (mCall 2 F_are_lines (mCons (mVar 2) (mCons (mFn gLen (mCons (mBin gIxT (mVar 0) (mC (.int 0))) (mNil))) (mNil))))))) (mRaise 1) (mSkip))
    (mRet (mFn gTuple (mCons (mComp (.one 3) [3] (mItT (mVar 1)) (mYes) (mCall 2 F_signs_at (mCons (mBin gIxT (mVar 0) (mVar 3)) (mCons (mVar 2) (mNil))))) (mNil)))))
def F_part : PF := ofBody 1 m_part
def m_ticks : MS :=
    mSeq (mExpr (mCall 1 F_check_table (mCons (mVar 0) (mNil))))
    (mRet (mCall 2 F_places_of (mCons (mVar 0) (mCons (mC (.str "x")) (mNil)))))
def F_ticks : PF := ofBody 0 m_ticks
def m__law_next : MS :=
    mSeq (mSet 1 (mBin gIxP (mVar 0) (mC (.int 1))))
    (mSeq (mSetPen (mBin gAdd (mVar 1) (mC (.int 1))) (mVar 0) (mC (.int 1)))
    (mSeq (mSet 2 (mBin gAdd (mBin gMul (mVar 1) (mC (.int 1051))) (mC (.int 53))))
    (mSeq (mIfS (mTest (mBin gNe (mBin gIxP (mVar 0) (mC (.int 0))) (mLst (mNil)))) (mSet 2 (mBin gIxL (mBin gIxP (mVar 0) (mC (.int 0))) (mBin gMod (mFn gInt (mCons (mVar 1) (mNil))) (mFn gLen (mCons (mBin gIxP (mVar 0) (mC (.int 0))) (mNil)))))) (mSkip))
    (mSeq (mIfS (mAndT (mTest (mBin gLt (mVar 1) (mFn gLen (mCons (mBin gIxP (mVar 0) (mC (.int 0))) (mNil))))) (mTest (mBin gGe (mVar 2) (mBin gPow (mC (.int 10)) (mC (.int 18)))))) (mRet (mVar 2)) (mSkip))
    (mSeq (mSet 3 (mBin gMod (mFn gInt (mCons (mBin gAdd (mBin gAdd (mBin gMod (mFn gInt (mCons (mVar 2) (mNil))) (mC (.int 2147483587))) (mBin gMul (mVar 1) (mC (.int 30103)))) (mC (.int 79))) (mNil))) (mC (.int 2147483587))))
    (mSeq (mSet 4 (mBin gMod (mFn gInt (mCons (mBin gAdd (mBin gAdd (mBin gMul (mVar 3) (mVar 3)) (mBin gMul (mVar 1) (mC (.int 70039)))) (mC (.int 61))) (mNil))) (mC (.int 2147483563))))
    (mSeq (mSet 5 (mBin gMod (mFn gInt (mCons (mBin gAdd (mBin gAdd (mBin gMul (mVar 4) (mVar 4)) (mVar 3)) (mBin gMul (mBin gMul (mVar 1) (mVar 1)) (mC (.int 37)))) (mNil))) (mC (.int 2147483549))))
    (mRet (mBin gAdd (mBin gMul (mBin gAdd (mBin gMul (mVar 5) (mC (.int 2147483587))) (mVar 4)) (mC (.int 2147483563))) (mVar 3))))))))))
def F__law_next : PF := ofBody 5 m__law_next
def m__law_draw : MS :=
    mSeq (mIfS (mTest (mBin gLt (mBin gIxP (mVar 0) (mC (.int 2))) (mVar 1))) (mSetPen (mCall 1 F__law_next (mCons (mVar 0) (mNil))) (mVar 0) (mC (.int 2))) (mSkip))
    (mSeq (mSet 2 (mBin gMod (mFn gInt (mCons (mBin gIxP (mVar 0) (mC (.int 2))) (mNil))) (mVar 1)))
    (mSeq (mSetPen (mBin gDiv (mBin gIxP (mVar 0) (mC (.int 2))) (mVar 1)) (mVar 0) (mC (.int 2)))
    (mRet (mVar 2))))
def F__law_draw : PF := ofBody 1 m__law_draw
def m__law_shuffled : MS :=
    mSeq (mPar true true 2 3 (mFn gList (mCons (mVar 1) (mNil))) (mLst (mNil)))
    (mSeq (whileS (mTest (mBin gNe (mVar 2) (mLst (mNil)))) (mAppend 3 (mPop 2 (mCall 2 F__law_draw (mCons (mVar 0) (mCons (mFn gLen (mCons (mVar 2) (mNil))) (mNil)))))) 100)
    (mRet (mVar 3)))
def F__law_shuffled : PF := ofBody 2 m__law_shuffled
def m__law_part : MS :=
    mRet (mFn gTuple (mCons (mComp (.one 3) [3] (mItA (mVar 1)) (mYes) (mM1 gJoin (mC (.str "")) (mComp (.one 4) [4] (mItA (mVar 2)) (mYes) (mBin gIxS (mBin gIxT (mVar 0) (mVar 3)) (mVar 4))))) (mNil)))
def F__law_part : PF := ofBody 2 m__law_part
def m__law_with : MS :=
    mSeq (mSet 4 (mBin gIxT (mVar 0) (mVar 1)))
    (mRet (mBin gCatT (mBin gCatT (mSl gSlT (mVar 0) (mNoPart) (mPart (mVar 1))) (mTup (mCons (mBin gCatS (mBin gCatS (mSl gSlS (mVar 4) (mNoPart) (mPart (mVar 2))) (mVar 3)) (mSl gSlS (mVar 4) (mPart (mBin gAdd (mVar 2) (mC (.int 1)))) (mNoPart))) (mNil)))) (mSl gSlT (mVar 0) (mPart (mBin gAdd (mVar 1) (mC (.int 1)))) (mNoPart))))
def F__law_with : PF := ofBody 1 m__law_with
def m__law_ringed : MS :=
    mSeq (mSetO 1 (mLst (mNil)))
    (mSeq (mFor (.one 2) (mItR1 (mVar 0)) (mAppend 1 (mM1 gJoin (mC (.str "")) (mComp (.one 3) [3] (mItR1 (mVar 0)) (mYes) (mIf (mTest (mBin (gIn false) (mVar 3) (mTup (mCons (mVar 2) (mCons (mBin gMod (mBin gAdd (mVar 2) (mC (.int 1))) (mVar 0)) (mNil)))))) (mC (.str "x")) (mC (.str ".")))))))
    (mRet (mFn gTuple (mCons (mVar 1) (mNil)))))
def F__law_ringed : PF := ofBody 3 m__law_ringed
def m__law_steps : MS :=
    mSeq (mPar3 3 4 5 (mVar 1) (mVar 2) (mC (.int 0)))
    (mSeq (mFor (.one 6) (mItR1 (mBin gAdd (mBin gMul (mC (.int 2)) (mFn gLen (mCons (mVar 0) (mNil)))) (mC (.int 2)))) (mSeq (mIfS (mTest (mBin gEq (mVar 3) (mVar 4))) (mRet (mVar 5)) (mSkip))
    (mSeq (mIfS (mTest (mBin gGt (mVar 3) (mVar 4))) (mSet 3 (mBin gIxT (mVar 0) (mBin gSub (mVar 3) (mC (.int 1))))) (mSet 4 (mBin gIxT (mVar 0) (mBin gSub (mVar 4) (mC (.int 1))))))
    (mSet 5 (mBin gAdd (mVar 5) (mC (.int 1)))))))
    (mRet (mVar 5)))
def F__law_steps : PF := ofBody 4 m__law_steps
def m__law_balls : MS :=
    mSeq (mSetO 2 (mLst (mNil)))
    (mSeq (mFor (.two 3 4) (mItL (mVar 1)) (mSeq (mSto false 5 (mComp (.one 6) [6] (mItR1 (mBin gAdd (mFn gLen (mCons (mVar 0) (mNil))) (mC (.int 1)))) (mYes) (mIf (mTest (mBin gLe (mCall 3 F__law_steps (mCons (mVar 0) (mCons (mVar 3) (mCons (mVar 6) (mNil))))) (mVar 4))) (mC (.str "x")) (mC (.str ".")))))
    (mAppend 2 (mM1 gJoin (mC (.str "")) (mVar 5)))))
    (mRet (mFn gTuple (mCons (mVar 2) (mNil)))))
def F__law_balls : PF := ofBody 5 m__law_balls
def m__law_table : MS :=
    mSeq (mTSet (.two 2 3) (mTup (mCons (mBin gAdd (mC (.int 1)) (mCall 2 F__law_draw (mCons (mVar 0) (mCons (mVar 1) (mNil))))) (mCons (mBin gAdd (mC (.int 1)) (mCall 2 F__law_draw (mCons (mVar 0) (mCons (mVar 1) (mNil))))) (mNil)))))
    (mSeq (mTSet (.two 4 5) (mTup (mCons (mCall 2 F__law_draw (mCons (mVar 0) (mCons (mC (.int 8)) (mNil)))) (mCons (mBin gAdd (mC (.int 2)) (mCall 2 F__law_draw (mCons (mVar 0) (mCons (mC (.int 3)) (mNil))))) (mNil)))))
    (mSeq (mIfS (mAndT (mTest (mBin gLt (mVar 4) (mC (.int 2)))) (mTest (mBin gGt (mVar 1) (mC (.int 2))))) (mSeq (mSet 6 (mCall 1 F__law_ringed (mCons (mBin gAdd (mC (.int 3)) (mCall 2 F__law_draw (mCons (mVar 0) (mCons (mBin gSub (mVar 1) (mC (.int 2))) (mNil))))) (mNil))))
    (mFor (.one 7) (mItR1 (mCall 2 F__law_draw (mCons (mVar 0) (mCons (mC (.int 3)) (mNil))))) (mSeq (mPar false false 9 10 (mCall 2 F__law_draw (mCons (mVar 0) (mCons (mFn gLen (mCons (mVar 6) (mNil))) (mNil)))) (mCall 2 F__law_draw (mCons (mVar 0) (mCons (mFn gLen (mCons (mVar 6) (mNil))) (mNil)))))
    (mSet 6 (mCall 4 F__law_with (mCons (mVar 6) (mCons (mVar 9) (mCons (mVar 10) (mCons (mBin gIxS (mC (.str "x.")) (mCall 2 F__law_draw (mCons (mVar 0) (mCons (mC (.int 2)) (mNil))))) (mNil)))))))))) (mIfS (mTest (mBin gLt (mVar 4) (mC (.int 4)))) (mSeq (mSet 8 (mFn gTuple (mCons (mComp (.one 12) [12] (mItR1 (mBin gSub (mVar 3) (mC (.int 1)))) (mYes) (mCall 2 F__law_draw (mCons (mVar 0) (mCons (mBin gAdd (mVar 12) (mC (.int 1))) (mNil))))) (mNil))))
    (mSet 6 (mCall 2 F__law_balls (mCons (mVar 8) (mCons (mComp (.one 9) [9] (mItR1 (mVar 2)) (mYes) (mTup (mCons (mCall 2 F__law_draw (mCons (mVar 0) (mCons (mVar 3) (mNil)))) (mCons (mCall 2 F__law_draw (mCons (mVar 0) (mCons (mC (.int 4)) (mNil)))) (mNil))))) (mNil)))))) (mIfS (mTest (mBin gEq (mVar 4) (mC (.int 4)))) (mSeq (mSto false 11 (mComp (.one 9) [9] (mItR1 (mVar 2)) (mYes) (mTup (mCons (mCall 2 F__law_draw (mCons (mVar 0) (mCons (mVar 3) (mNil)))) (mCons (mCall 2 F__law_draw (mCons (mVar 0) (mCons (mBin gAdd (mVar 3) (mC (.int 1))) (mNil)))) (mNil))))))
    (mSet 6 (mFn gTuple (mCons (mComp (.two 13 14) [13, 14] (mItL (mVar 11)) (mYes) (mM1 gJoin (mC (.str "")) (mComp (.one 15) [15] (mItR1 (mVar 3)) (mYes) (mIf (mTest (mChain gLe gLt (mVar 13) (mVar 15) (mVar 14))) (mC (.str "x")) (mC (.str ".")))))) (mNil))))) (mSet 6 (mFn gTuple (mCons (mComp (.one 9) [9] (mItR1 (mVar 2)) (mYes) (mM1 gJoin (mC (.str "")) (mComp (.one 15) [15] (mItR1 (mVar 3)) (mYes) (mBin gIxS (mC (.str ".x")) (mFn gMin (mCons (mC (.int 1)) (mCons (mCall 2 F__law_draw (mCons (mVar 0) (mCons (mVar 5) (mNil)))) (mNil)))))))) (mNil)))))))
    (mSeq (mSet 16 (mCall 2 F__law_shuffled (mCons (mVar 0) (mCons (mLstR (mFn gLen (mCons (mVar 6) (mNil)))) (mNil)))))
    (mRet (mCall 3 F__law_part (mCons (mVar 6) (mCons (mVar 16) (mCons (mCall 2 F__law_shuffled (mCons (mVar 0) (mCons (mLstR (mFn gLen (mCons (mBin gIxT (mVar 6) (mC (.int 0))) (mNil)))) (mNil)))) (mNil)))))))))
def F__law_table : PF := ofBody 15 m__law_table
def m__law_some : MS :=
    mSeq (mSetO 3 (mFn gList (mCons (mVar 1) (mNil))))
    (mRet (mCompL (.one 4) [4] (mItR1 (mCall 2 F__law_draw (mCons (mVar 0) (mCons (mBin gAdd (mFn gMin (mCons (mVar 2) (mCons (mFn gLen (mCons (mVar 3) (mNil))) (mNil)))) (mC (.int 1))) (mNil))))) (mYes) (mPop 3 (mCall 2 F__law_draw (mCons (mVar 0) (mCons (mFn gLen (mCons (mVar 3) (mNil))) (mNil)))))))
def F__law_some : PF := ofBody 2 m__law_some
def m__law_turned : MS :=
    mRet (mFn gTuple (mCons (mComp (.one 1) [1] (mItR1 (mFn gLen (mCons (mBin gIxT (mVar 0) (mC (.int 0))) (mNil)))) (mYes) (mM1 gJoin (mC (.str "")) (mComp (.one 2) [2] (mItT (mVar 0)) (mYes) (mBin gIxS (mVar 2) (mVar 1))))) (mNil)))
def F__law_turned : PF := ofBody 2 m__law_turned
def m__law_is_table : MS :=
    mSeq (mIfS (mOrT (mNotT (mTest (mUn (gIsi .tup) (mVar 0)))) (mOrT (mNotT (mTest (mChain gLe gLe (mC (.int 1)) (mFn gLen (mCons (mVar 0) (mNil))) (mC (.int 8))))) (mNotT (mTest (mFn gAll (mCons (mComp (.one 1) [1] (mItT (mVar 0)) (mYes) (mUn (gIsi .str) (mVar 1))) (mNil))))))) (mRet (mC (.bool false))) (mSkip))
    (mSeq (mIfS (mOrT (mNotT (mTest (mChain gLe gLe (mC (.int 1)) (mFn gLen (mCons (mBin gIxT (mVar 0) (mC (.int 0))) (mNil))) (mC (.int 8))))) (mTest (mFn gAny (mCons (mComp (.one 1) [1] (mItT (mVar 0)) (mYes) (mBin gNe (mFn gLen (mCons (mVar 1) (mNil))) (mFn gLen (mCons (mBin gIxT (mVar 0) (mC (.int 0))) (mNil))))) (mNil))))) (mRet (mC (.bool false))) (mSkip))
    (mRet (mFn gAll (mCons (mComp (.one 1) [1] (mItT (mVar 0)) (mYes) (mFn gAll (mCons (mComp (.one 2) [2] (mItS (mVar 1)) (mYes) (mBin (gIn false) (mVar 2) (mTup (mCons (mC (.str "x")) (mCons (mC (.str ".")) (mNil)))))) (mNil)))) (mNil)))))
def F__law_is_table : PF := ofBody 2 m__law_is_table
def m__law_odd_tables : MS :=
    mSeq (mSet 1 (mBin gIxT (mVar 0) (mC (.int 0))))
    (mSeq (mSet 2 (mLst (mCons (mC .none) (mCons (mTup (mNil)) (mCons (mLst (mNil)) (mCons (mC (.dict [])) (mCons (mC (.int 0)) (mCons (mC (.str "x")) (mCons (mC (.str "")) (mNil))))))))))
    (mSeq (mSet 2 (mBin gCatL (mVar 2) (mLst (mCons (mFn gList (mCons (mVar 0) (mNil))) (mCons (mTup (mCons (mC .none) (mNil))) (mCons (mTup (mCons (mTup (mNil)) (mNil))) (mCons (mTup (mCons (mTup (mCons (mC (.str "x")) (mNil))) (mNil))) (mCons (mTup (mCons (mC (.str "")) (mNil))) (mCons (mTup (mCons (mVar 1) (mCons (mBin gCatS (mVar 1) (mC (.str "x"))) (mNil)))) (mCons (mTup (mCons (mBin gCatS (mVar 1) (mC (.str "x"))) (mCons (mVar 1) (mNil)))) (mNil)))))))))))
    (mSeq (mSet 2 (mBin gCatL (mVar 2) (mLst (mCons (mBin gRepT (mTup (mCons (mC (.str "x")) (mNil))) (mC (.int 9))) (mCons (mTup (mCons (mBin gMulS (mC (.str "x")) (mC (.int 9))) (mNil))) (mCons (mTup (mCons (mVar 1) (mCons (mBin gCatS (mSl gSlS (mVar 1) (mNoPart) (mPart (mUn gNeg (mC (.int 1))))) (mC (.str "X"))) (mNil)))) (mCons (mTup (mCons (mBin gCatS (mSl gSlS (mVar 1) (mNoPart) (mPart (mUn gNeg (mC (.int 1))))) (mC (.str "o"))) (mNil))) (mCons (mTup (mCons (mBin gCatS (mSl gSlS (mVar 1) (mNoPart) (mPart (mUn gNeg (mC (.int 1))))) (mC (.str " "))) (mNil))) (mCons (mTup (mCons (mVar 1) (mCons (mC .none) (mNil)))) (mNil))))))))))
    (mSeq (mSet 2 (mBin gCatL (mVar 2) (mLst (mCons (mTup (mCons (mVar 1) (mCons (mFn gListS (mCons (mVar 1) (mNil))) (mNil)))) (mCons (mTup (mCons (mC (.bool true)) (mNil))) (mCons (mTup (mCons (mC (.int 0)) (mNil))) (mCons (mTup (mCons (mC (.str "x\n")) (mNil))) (mCons (mTup (mCons (mBin gCatS (mSl gSlS (mVar 1) (mNoPart) (mPart (mUn gNeg (mC (.int 1))))) (mC (.str "1"))) (mCons (mVar 1) (mNil)))) (mCons (mTup (mCons (mLst (mCons (mVar 1) (mNil))) (mNil))) (mNil))))))))))
    (mSeq (mSet 2 (mBin gCatL (mVar 2) (mLst (mCons (mTup (mCons (mBin gCatS (mSl gSlS (mVar 1) (mNoPart) (mPart (mUn gNeg (mC (.int 1))))) (mC (.str "1"))) (mNil))) (mCons (mTup (mCons (mBin gCatS (mC (.str "o")) (mSl gSlS (mVar 1) (mPart (mC (.int 1))) (mNoPart))) (mCons (mVar 1) (mNil)))) (mCons (mTup (mCons (mC (.str "xx")) (mCons (mC (.str "x")) (mCons (mC (.str "xxx")) (mNil))))) (mCons (mTup (mCons (mC (.str "xxx")) (mCons (mC (.str "x")) (mCons (mC (.str "xx")) (mNil))))) (mNil))))))))
    (mSeq (mSet 2 (mBin gCatL (mVar 2) (mLst (mCons (mBin gRepT (mTup (mCons (mBin gMulS (mC (.str "x")) (mC (.int 9))) (mNil))) (mC (.int 9))) (mCons (mBin gRepT (mTup (mCons (mBin gMulS (mC (.str "x")) (mC (.int 9))) (mNil))) (mC (.int 8))) (mCons (mBin gRepT (mTup (mCons (mBin gMulS (mC (.str "x")) (mC (.int 8))) (mNil))) (mC (.int 9))) (mNil)))))))
    (mRet (mBin gCatL (mVar 2) (mLst (mCons (mTup (mCons (mC (.str "x")) (mCons (mC (.str "x")) (mCons (mC (.str ".")) (mCons (mC (.str "")) (mCons (mC (.str "x")) (mNil))))))) (mCons (mTup (mCons (mC (.str "xx.")) (mCons (mC (.str ".x")) (mCons (mC (.str "x.xx")) (mNil))))) (mNil))))))))))))
def F__law_odd_tables : PF := ofBody 2 m__law_odd_tables
def m__law_odd_lines : MS :=
    mSeq (mSet 1 (mLst (mCons (mC .none) (mCons (mTup (mNil)) (mCons (mLst (mCons (mC (.int 0)) (mNil))) (mCons (mTup (mCons (mC (.int 0)) (mCons (mC (.int 0)) (mNil)))) (mCons (mTup (mCons (mVar 0) (mNil))) (mCons (mTup (mCons (mUn gNeg (mC (.int 1))) (mNil))) (mCons (mTup (mCons (mC (.bool true)) (mNil))) (mCons (mTup (mCons (mC (.bool false)) (mNil))) (mCons (mC (.str "0")) (mCons (mC (.dict [])) (mCons (mC (.int 0)) (mCons (mTup (mCons (mTup (mCons (mC (.int 0)) (mNil))) (mNil))) (mCons (mTup (mCons (mC .none) (mNil))) (mCons (mTup (mCons (mC (.str "0")) (mNil))) (mNil)))))))))))))))))
    (mSeq (mSet 1 (mBin gCatL (mVar 1) (mLst (mCons (mTup (mCons (mLst (mCons (mC (.int 0)) (mNil))) (mNil))) (mCons (mTup (mCons (mC (.dict [])) (mNil))) (mCons (mTup (mCons (mC (.int 0)) (mCons (mLst (mNil)) (mNil)))) (mCons (mTup (mCons (mLst (mNil)) (mCons (mC (.int 0)) (mNil)))) (mNil))))))))
    (mSeq (mSet 2 (mTupR (mVar 0)))
    (mSeq (mSet 1 (mBin gCatL (mVar 1) (mLst (mCons (mBin gCatT (mVar 2) (mTup (mCons (mVar 0) (mNil)))) (mCons (mBin gCatT (mVar 2) (mSl gSlT (mVar 2) (mPart (mUn gNeg (mC (.int 1)))) (mNoPart))) (mCons (mBin gCatT (mVar 2) (mTup (mCons (mUn gNeg (mC (.int 1))) (mNil)))) (mCons (mBin gCatT (mSl gSlT (mVar 2) (mNoPart) (mPart (mUn gNeg (mC (.int 1))))) (mTup (mCons (mC .none) (mNil)))) (mCons (mFn gList (mCons (mVar 2) (mNil))) (mNil)))))))))
    (mSeq (mSet 1 (mBin gCatL (mVar 1) (mLst (mCons (mBin gCatT (mVar 2) (mTup (mCons (mC (.bool true)) (mNil)))) (mCons (mTup (mCons (mC (.int 0)) (mCons (mBin gPow (mC (.int 10)) (mC (.int 39))) (mNil)))) (mCons (mIf (mTest (mBin gGt (mVar 0) (mC (.int 1)))) (mBin gCatT (mSl gSlT (mVar 2) (mNoPart) (mPart (mUn gNeg (mC (.int 1))))) (mTup (mCons (mC (.bool false)) (mNil)))) (mTup (mCons (mC (.bool false)) (mNil)))) (mNil)))))))
    (mRet (mBin gCatL (mVar 1) (mLst (mCons (mBin gCatT (mVar 2) (mSl gSlT (mVar 2) (mNoPart) (mPart (mC (.int 1))))) (mCons (mTup (mCons (mC (.int 0)) (mCons (mC (.int 1)) (mCons (mC (.int 0)) (mNil))))) (mCons (mTup (mCons (mC (.int 1)) (mCons (mC (.int 0)) (mCons (mC (.int 1)) (mNil))))) (mCons (mBin gCatT (mBin gCatT (mSl gSlT (mVar 2) (mNoPart) (mPart (mC (.int 1)))) (mTup (mCons (mVar 0) (mNil)))) (mSl gSlT (mVar 2) (mPart (mC (.int 1))) (mNoPart))) (mCons (mTup (mCons (mC (.int 0)) (mCons (mC .none) (mCons (mC (.int 1)) (mNil))))) (mNil)))))))))))))
def F__law_odd_lines : PF := ofBody 2 m__law_odd_lines
def m__law_word : MS :=
    mSeq (mIfS (mTest (mBin gIsN (mVar 1) (mC .none))) (mRet (mC (.str ""))) (mSkip))
    (mSeq (mSet 3 (mLst (mCons (mUn (gIsX subT 2) (mVar 1)) (mCons (mUn (gIsX subT 1) (mVar 1)) (mNil)))))
    (mSeq (mSet 4 (mLst (mCons (mC (.str "table")) (mCons (mC (.str "lines")) (mNil)))))
    (mRet (mIf (mTest (mBin gEq (mLm gCountB (mVar 3) (mC (.bool true))) (mC (.int 1)))) (mBin gIxL (mVar 4) (mLm gIndexB (mVar 3) (mC (.bool true)))) (mC (.str "other"))))))
def wd__law_word : Nat → Option Str
  | 0 => some "other"
  | 1 => some "lines"
  | 2 => some "table"
  | _ => none
def m__law_bent : MS :=
    mSeq (mPar3 2 3 4 (mCall 2 F__law_draw (mCons (mVar 0) (mCons (mFn gLen (mCons (mVar 1) (mNil))) (mNil)))) (mCall 2 F__law_draw (mCons (mVar 0) (mCons (mFn gLen (mCons (mBin gIxT (mVar 1) (mC (.int 0))) (mNil))) (mNil)))) (mCall 2 F__law_draw (mCons (mVar 0) (mCons (mC (.int 12)) (mNil)))))
    (mSeq (mIfS (mTest (mBin gLt (mVar 4) (mC (.int 5)))) (mSeq (mSet 5 (mBin gCatL (mFn gListS (mCons (mC (.str " !#$&()*+,-/0189:;<=>?@AXZ[]^_aowyz{|}~\t\nx.")) (mNil))) (mLst (mCons (mC (.str "")) (mCons (mC (.str "xx")) (mCons (mC (.str "..")) (mCons (mC (.str "x")) (mCons (mC (.str ".")) (mNil)))))))))
    (mRet (mCall 4 F__law_with (mCons (mVar 1) (mCons (mVar 2) (mCons (mVar 3) (mCons (mBin gIxL (mVar 5) (mCall 2 F__law_draw (mCons (mVar 0) (mCons (mFn gLen (mCons (mVar 5) (mNil))) (mNil))))) (mNil)))))))) (mSkip))
    (mSeq (mIfS (mTest (mBin gLt (mVar 4) (mC (.int 8)))) (mSeq (mSet 6 (mBin gIxL (mLst (mCons (mC .none) (mCons (mTup (mNil)) (mCons (mFn gListS (mCons (mBin gIxT (mVar 1) (mVar 2)) (mNil))) (mCons (mC (.int 0)) (mCons (mC (.bool true)) (mCons (mC (.str "")) (mCons (mC (.str "x")) (mCons (mBin gCatS (mBin gIxT (mVar 1) (mVar 2)) (mC (.str "."))) (mCons (mSl gSlS (mBin gIxT (mVar 1) (mVar 2)) (mPart (mC (.int 1))) (mNoPart)) (mNil))))))))))) (mCall 2 F__law_draw (mCons (mVar 0) (mCons (mC (.int 9)) (mNil))))))
    (mRet (mBin gCatT (mBin gCatT (mSl gSlT (mVar 1) (mNoPart) (mPart (mVar 2))) (mTup (mCons (mVar 6) (mNil)))) (mSl gSlT (mVar 1) (mPart (mBin gAdd (mVar 2) (mC (.int 1)))) (mNoPart))))) (mSkip))
    (mSeq (mSet 7 (mBin gIxL (mLst (mCons (mBin gCatT (mVar 1) (mSl gSlT (mVar 1) (mNoPart) (mPart (mC (.int 1))))) (mCons (mSl gSlT (mVar 1) (mPart (mC (.int 1))) (mNoPart)) (mCons (mBin gRepT (mVar 1) (mC (.int 8))) (mCons (mFn gList (mCons (mVar 1) (mNil))) (mCons (mM1 gJoin (mC (.str "\n")) (mVar 1)) (mCons (mC (.dict [])) (mNil)))))))) (mCall 2 F__law_draw (mCons (mVar 0) (mCons (mC (.int 6)) (mNil))))))
    (mRet (mVar 7)))))
def F__law_bent : PF := ofBody 6 m__law_bent
def m__law_lines_right : MS :=
    mSeq (mTSet (.two 2 3) (mTup (mCons (mCall 3 F__law_some (mCons (mVar 0) (mCons (mLstR (mFn gLen (mCons (mVar 1) (mNil)))) (mCons (mC (.int 8)) (mNil))))) (mCons (mCall 3 F__law_some (mCons (mVar 0) (mCons (mLstR (mFn gLen (mCons (mBin gIxT (mVar 1) (mC (.int 0))) (mNil)))) (mCons (mC (.int 8)) (mNil))))) (mNil)))))
    (mSeq (mTSet (.two 2 3) (mTup (mCons (mOrTr (mFn gTuple (mCons (mVar 2) (mNil))) (mTup (mCons (mC (.int 0)) (mNil)))) (mCons (mOrTr (mFn gTuple (mCons (mVar 3) (mNil))) (mTup (mCons (mC (.int 0)) (mNil)))) (mNil)))))
    (mSeq (mIfS (mTest (mBin gNe (mFn gRepr (mCons (mCall 3 F_part (mCons (mVar 1) (mCons (mVar 2) (mCons (mVar 3) (mNil))))) (mNil))) (mFn gRepr (mCons (mCall 3 F__law_part (mCons (mVar 1) (mCons (mVar 2) (mCons (mVar 3) (mNil))))) (mNil))))) (mRet (mC (.bool false))) (mSkip))
    (mSeq (mFor (.one 4) (mItL (mCall 1 F__law_odd_lines (mCons (mFn gLen (mCons (mVar 1) (mNil))) (mNil)))) (mSeq (mSet 5 (mFn gRepr (mCons (mVar 4) (mNil))))
    (mSeq (mSetO 6 (mLst (mCons (mWord wd__law_word (mCall 3 F_part (mCons (mVar 1) (mCons (mVar 4) (mCons (mC .none) (mNil)))))) (mCons (mC (.str "")) (mNil)))))
    (mSeq (mSetItem 6 (mWord wd__law_word (mCall 3 F_part (mCons (mVar 1) (mCons (mVar 4) (mCons (mVar 3) (mNil)))))) (mC (.int 1)))
    (mIfS (mOrT (mTest (mBin gNe (mVar 6) (mBin gRepL (mLst (mCons (mC (.str "lines")) (mNil))) (mC (.int 2))))) (mTest (mBin gNe (mFn gRepr (mCons (mVar 4) (mNil))) (mVar 5)))) (mRet (mC (.bool false))) (mSkip))))))
    (mSeq (mFor (.one 4) (mItL (mCall 1 F__law_odd_lines (mCons (mFn gLen (mCons (mBin gIxT (mVar 1) (mC (.int 0))) (mNil))) (mNil)))) (mSeq (mSet 5 (mFn gRepr (mCons (mVar 4) (mNil))))
    (mIfS (mOrT (mTest (mBin gNe (mWord wd__law_word (mCall 3 F_part (mCons (mVar 1) (mCons (mVar 2) (mCons (mVar 4) (mNil)))))) (mC (.str "lines")))) (mTest (mBin gNe (mFn gRepr (mCons (mVar 4) (mNil))) (mVar 5)))) (mRet (mC (.bool false))) (mSkip))))
    (mRet (mC (.bool true)))))))
def F__law_lines_right : PF := ofBody 5 m__law_lines_right
def m_law : MS :=
    mSeq (mFor (.one 2) (mItR1 (mC (.int 4))) (mSeq (mSet 3 (mCall 2 F__law_table (mCons (mVar 1) (mCons (mBin gIxL (mLst (mCons (mC (.int 3)) (mCons (mC (.int 5)) (mCons (mC (.int 8)) (mNil))))) (mCall 2 F__law_draw (mCons (mVar 1) (mCons (mC (.int 3)) (mNil))))) (mNil)))))
    (mSeq (mPar false false 7 8 (mFn gRepr (mCons (mVar 3) (mNil))) (mLst (mNil)))
    (mSeq (mFor (.one 4) (mItR1 (mFn gLen (mCons (mVar 3) (mNil)))) (mSet 8 (mBin gCatL (mVar 8) (mComp (.one 13) [13] (mItR1 (mFn gLen (mCons (mBin gIxT (mVar 3) (mC (.int 0))) (mNil)))) (mTest (mBin gEq (mBin gIxS (mBin gIxT (mVar 3) (mVar 4)) (mVar 13)) (mC (.str "x")))) (mTup (mCons (mVar 4) (mCons (mVar 13) (mNil))))))))
    (mSeq (mFor (.one 5) (mItR1 (mC (.int 2))) (mSeq (mSetO 9 (mCall 1 F_ticks (mCons (mVar 3) (mNil))))
    (mSeq (mIfS (mOrT (mTest (mBin (gIsB true) (mCall 1 F_is_table (mCons (mVar 3) (mNil))) (mC (.bool true)))) (mTest (mBin gNe (mFn gRepr (mCons (mVar 9) (mNil))) (mFn gRepr (mCons (mVar 8) (mNil)))))) (mRet (mC (.bool false))) (mSkip))
    (mAppend 9 (mC .none)))))
    (mSeq (mIfS (mOrT (mTest (mBin gNe (mFn gRepr (mCons (mCall 1 F_turned (mCons (mVar 3) (mNil))) (mNil))) (mFn gRepr (mCons (mCall 1 F__law_turned (mCons (mVar 3) (mNil))) (mNil))))) (mTest (mBin gNe (mFn gRepr (mCons (mCall 1 F_turned (mCons (mCall 1 F_turned (mCons (mVar 3) (mNil))) (mNil))) (mNil))) (mVar 7)))) (mRet (mC (.bool false))) (mSkip))
    (mSeq (mIfS (mOrT (mNotT (mTest (mCall 2 F__law_lines_right (mCons (mVar 1) (mCons (mVar 3) (mNil)))))) (mTest (mBin gNe (mFn gRepr (mCons (mVar 3) (mNil))) (mVar 7)))) (mRet (mC (.bool false))) (mSkip))
    (mSeq (mFor (.one 5) (mItR1 (mC (.int 6))) (mSeq (mSet 10 (mCall 2 F__law_bent (mCons (mVar 1) (mCons (mVar 3) (mNil)))))
    (mSeq (mSet 11 (mFn gRepr (mCons (mVar 10) (mNil))))
    (mIfS (mOrT (mTest (mBin gNe (mFn gRepr (mCons (mCall 1 F_is_table (mCons (mVar 10) (mNil))) (mNil))) (mFn gRepr (mCons (mCall 1 F__law_is_table (mCons (mVar 10) (mNil))) (mNil))))) (mTest (mBin gNe (mFn gRepr (mCons (mVar 10) (mNil))) (mVar 11)))) (mRet (mC (.bool false))) (mSkip)))))
    (mFor (.one 6) (mItL (mCall 1 F__law_odd_tables (mCons (mVar 3) (mNil)))) (mSeq (mPar true false 12 11 (mLst (mCons (mWord wd__law_word (mCall 1 F_turned (mCons (mVar 6) (mNil)))) (mCons (mC (.str "")) (mNil)))) (mFn gRepr (mCons (mVar 6) (mNil))))
    (mSeq (mSetItem 12 (mWord wd__law_word (mCall 1 F_ticks (mCons (mVar 6) (mNil)))) (mC (.int 1)))
    (mSeq (mAppend 12 (mWord wd__law_word (mCall 3 F_part (mCons (mVar 6) (mCons (mC .none) (mCons (mC .none) (mNil)))))))
    (mIfS (mOrT (mTest (mBin (gIsB true) (mCall 1 F_is_table (mCons (mVar 6) (mNil))) (mC (.bool false)))) (mOrT (mTest (mBin gNe (mVar 12) (mBin gRepL (mLst (mCons (mC (.str "table")) (mNil))) (mC (.int 3))))) (mTest (mBin gNe (mFn gRepr (mCons (mVar 6) (mNil))) (mVar 11))))) (mRet (mC (.bool false))) (mSkip))))))))))))))
    (mRet (mAndV (mBin (gIsB false) (mCall 1 F_is_table (mCons (mBin gRepT (mTup (mCons (mC (.str "x")) (mNil))) (mC (.int 8))) (mNil))) (mC (.bool true))) (mAndV (mBin (gIsB false) (mCall 1 F_is_table (mCons (mTup (mCons (mBin gMulS (mC (.str "x")) (mC (.int 8))) (mNil))) (mNil))) (mC (.bool true))) (mBin gEq (mCall 1 F_ticks (mCons (mTup (mCons (mC (.str ".")) (mNil))) (mNil))) (mLst (mNil))))))
end K01

set_option Elab.async false
set_option linter.all false
set_option maxRecDepth 100000
set_option maxHeartbeats 1000000
/-! Vm1: reckoning with the plain functions. -/
namespace Vf
open PySem PySem.Spec PyProof.Rows L2

def ifK (m1 m2 : MS) (b : Bool) (S : Sx) : RS := match b with
  | true => m1 S
  | false => m2 S
def ifE (m1 m2 : ME) (b : Bool) (S : Sx) : RE W := match b with
  | true => m1 S
  | false => m2 S
def ifT (m1 m2 : MT) (b : Bool) (S : Sx) : RE Bool := match b with
  | true => m1 S
  | false => m2 S
def retK (w : W) (S : Sx) : RS := .rt w S
def nxK (w : W) (S : Sx) : RS := .nx S
def okT (b : Bool) : MT := fun S => .ok b S
def okE (w : W) : ME := fun S => .ok w S
def andK (mb : ME) (a : W) (S : Sx) : RE W := match wb a with
  | some true => mb S
  | some false => .ok (.d (.bool false)) S
  | none => .bad
def orK (mb : ME) (a : W) (S : Sx) : RE W := match wb a with
  | some true => .ok (.d (.bool true)) S
  | some false => mb S
  | none => .bad
def setK (i : Nat) (w : W) (S : Sx) : RS := if S.rho.length ≤ i then .bad else match cellOf w with
  | some c => .nx (sset S i c)
  | none => .bad
def setOK (i : Nat) (w : W) (S : Sx) : RS := if S.rho.length ≤ i then .bad else match w with
  | .new ds => .nx (sset S i (.lst ds))
  | _ => .bad
/-- one step each -/
theorem kSM :
    (∀ (m1 m2 : MS) (S : Sx), mSeq m1 m2 S = RS.seq (m1 S) m2) ∧ (∀ (S : Sx) (f : Sx → RS), RS.seq (.nx S) f = f S) ∧ (∀ (w : W) (S : Sx) (f : Sx → RS), RS.seq (.rt w S) f = .rt w S) ∧ (∀ (c : Nat) (l : Option Int) (S : Sx) (f : Sx → RS), RS.seq (.ex c l S) f = .ex c l S) ∧
    (∀ (S : Sx), mSkip S = .nx S) ∧ (∀ (me : ME) (S : Sx), mExpr me S = RE.go (me S) nxK) ∧ (∀ (me : ME) (S : Sx), mRet me S = RE.go (me S) retK) ∧ (∀ (S : Sx), mRetN S = .rt (.d .none) S) ∧ (∀ (mt : MT) (m1 m2 : MS) (S : Sx), mIfS mt m1 m2 S = RE.go (mt S) (ifK m1 m2)) ∧
    (∀ (m1 m2 : MS) (S : Sx), ifK m1 m2 true S = m1 S) ∧ (∀ (m1 m2 : MS) (S : Sx), ifK m1 m2 false S = m2 S) ∧ (∀ (w : W) (S : Sx), retK w S = .rt w S) ∧ (∀ (w : W) (S : Sx), nxK w S = .nx S) ∧
    (∀ (i : Nat) (me : ME) (S : Sx), mSet i me S = RE.go (me S) (setK i)) ∧ (∀ (i : Nat) (me : ME) (S : Sx), mSetO i me S = RE.go (me S) (setOK i)) ∧ (∀ (c : Nat) (S : Sx), mRaise c S = .ex c none S) := by
  refine ⟨fun _ _ _ => rfl, fun _ _ => rfl, fun _ _ _ => rfl, fun _ _ _ _ => rfl, fun _ => rfl, fun _ _ => rfl, fun _ _ => rfl, fun _ => rfl, fun _ _ _ _ => rfl, fun _ _ _ => rfl, fun _ _ _ => rfl, fun _ _ => rfl, fun _ _ => rfl, fun _ _ _ => rfl, fun _ _ _ => rfl, fun _ _ => rfl⟩
theorem kSE :
    (∀ {α : Type} (a : α) (S : Sx) (f : α → Sx → RS), RE.go (.ok a S) f = f a S) ∧ (∀ {α : Type} (c : Nat) (l : Option Int) (S : Sx) (f : α → Sx → RS), RE.go (.ex c l S) f = .ex c l S) ∧
    (∀ {α β : Type} (a : α) (S : Sx) (f : α → Sx → RE β), RE.bind (.ok a S) f = f a S) ∧ (∀ {α β : Type} (c : Nat) (l : Option Int) (S : Sx) (f : α → Sx → RE β), RE.bind (.ex c l S) f = .ex c l S) ∧
    (∀ {α : Type} (a : α) (S : Sx), RE.of (some a) S = .ok a S) ∧
    (∀ (i : Nat) (S : Sx), mVar i S = RE.of (vget S i) S) ∧ (∀ (x : PyData) (S : Sx), mC x S = .ok (.d x) S) ∧
    (∀ (g : Sx → W → W → Option W) (ma mb : ME) (S : Sx), mBin g ma mb S = RE.bind (ma S) fun a S1 => RE.bind (mb S1) fun b S2 => RE.of (g S2 a b) S2) ∧
    (∀ (g : Sx → W → Option W) (ma : ME) (S : Sx), mUn g ma S = RE.bind (ma S) fun a S1 => RE.of (g S1 a) S1) ∧
    (∀ (g : Sx → List W → Option W) (ms : MA) (S : Sx), mFn g ms S = RE.bind (ms S) fun a S1 => RE.of (g S1 a) S1) ∧
    (∀ (S : Sx), mNil S = .ok [] S) ∧ (∀ (m : ME) (ms : MA) (S : Sx), mCons m ms S = RE.bind (m S) fun a S1 => RE.bind (ms S1) fun as S2 => .ok (a :: as) S2) ∧
    (∀ (m : ME) (S : Sx), mTest m S = RE.bind (m S) fun a S1 => RE.of (wb a) S1) ∧ (∀ (ma mb : MT) (S : Sx), mAndT ma mb S = RE.bind (ma S) (ifT mb (okT false))) ∧ (∀ (ma mb : MT) (S : Sx), mOrT ma mb S = RE.bind (ma S) (ifT (okT true) mb)) ∧
    (∀ (ma : MT) (S : Sx), mNotT ma S = RE.bind (ma S) fun b S1 => .ok (!b) S1) ∧ (∀ (ma mb : ME) (S : Sx), mAndV ma mb S = RE.bind (ma S) (andK mb)) ∧ (∀ (ma mb : ME) (S : Sx), mOrV ma mb S = RE.bind (ma S) (orK mb)) ∧
    (∀ (ma : ME) (S : Sx), mNotV ma S = RE.bind (ma S) fun a S1 => RE.of ((wb a).map fun b => .d (.bool (!b))) S1) ∧ (∀ (mt : MT) (ma mb : ME) (S : Sx), mIf mt ma mb S = RE.bind (mt S) (ifE ma mb)) ∧
    (∀ (m1 m2 : ME) (S : Sx), ifE m1 m2 true S = m1 S) ∧ (∀ (m1 m2 : ME) (S : Sx), ifE m1 m2 false S = m2 S) ∧ (∀ (m1 m2 : MT) (S : Sx), ifT m1 m2 true S = m1 S) ∧ (∀ (m1 m2 : MT) (S : Sx), ifT m1 m2 false S = m2 S) ∧ (∀ (b : Bool) (S : Sx), okT b S = .ok b S) ∧ (∀ (w : W) (S : Sx), okE w S = .ok w S) ∧
    (∀ (mb : ME) (S : Sx), andK mb (.d (.bool true)) S = mb S) ∧ (∀ (mb : ME) (S : Sx), andK mb (.d (.bool false)) S = .ok (.d (.bool false)) S) ∧ (∀ (mb : ME) (S : Sx), orK mb (.d (.bool true)) S = .ok (.d (.bool true)) S) ∧ (∀ (mb : ME) (S : Sx), orK mb (.d (.bool false)) S = mb S) := by
  refine ⟨fun _ _ _ => rfl, fun _ _ _ _ => rfl, fun _ _ _ => rfl, fun _ _ _ _ => rfl, fun _ _ => rfl, fun _ _ => rfl, fun _ _ => rfl, fun _ _ _ _ => rfl, fun _ _ _ => rfl, fun _ _ _ => rfl, fun _ => rfl, fun _ _ _ => rfl, fun _ _ => rfl, fun ma mb S => rfl, fun _ _ _ => rfl, fun _ _ => rfl, fun _ _ _ => rfl, fun _ _ _ => rfl, fun _ _ => rfl, fun _ _ _ _ => rfl, fun _ _ _ => rfl, fun _ _ _ => rfl, fun _ _ _ => rfl, fun _ _ _ => rfl, fun _ _ => rfl, fun _ _ => rfl, fun _ _ => rfl, fun _ _ => rfl, fun _ _ => rfl, fun _ _ => rfl⟩
/-- values -/
theorem kSV :
    (∀ (x : PyData), cellOf (.d x) = some (.w (.d x))) ∧ (∀ (ds : List PyData), cellOf (.new ds) = some (.w (.d (.list ds)))) ∧ (cellOf .pen = some (.w .pen)) ∧
    (∀ (b : Bool), wb (.d (.bool b)) = some b) ∧ (∀ (i : Int), wi (.d (.int i)) = some i) ∧ (∀ (x : Str), ws (.d (.str x)) = some x) ∧ (∀ (ds : List PyData), wt (.d (.tuple ds)) = some ds) ∧
    (∀ (S : Sx) (ds : List PyData), lview S (.d (.list ds)) = some ds) ∧ (∀ (S : Sx) (ds : List PyData), lview S (.new ds) = some ds) ∧ (∀ (S : Sx) (x : PyData), dview S (.d x) = some x) ∧ (∀ (S : Sx) (ds : List PyData), dview S (.new ds) = some (.list ds)) ∧
    (∀ (S : Sx) (i j : Int), gAdd S (.d (.int i)) (.d (.int j)) = some (.d (.int (i + j)))) ∧ (∀ (S : Sx) (i j : Int), gSub S (.d (.int i)) (.d (.int j)) = some (.d (.int (i - j)))) ∧
    (∀ (S : Sx) (i j : Int), gLt S (.d (.int i)) (.d (.int j)) = some (.d (.bool (decide (i < j))))) ∧ (∀ (S : Sx) (i j : Int), gLe S (.d (.int i)) (.d (.int j)) = some (.d (.bool (decide (i ≤ j))))) ∧
    (∀ (S : Sx) (i j : Int), gGt S (.d (.int i)) (.d (.int j)) = some (.d (.bool (decide (j < i))))) ∧ (∀ (S : Sx) (i j : Int), gGe S (.d (.int i)) (.d (.int j)) = some (.d (.bool (decide (j ≤ i))))) ∧
    (∀ (S : Sx) (i : Int), gInt S [.d (.int i)] = some (.d (.int i))) ∧ (∀ (S : Sx) (i j : Int), gMin S [.d (.int i), .d (.int j)] = some (.d (.int (if j < i then j else i)))) := by
  refine ⟨fun _ => rfl, fun _ => rfl, rfl, fun _ => rfl, fun _ => rfl, fun _ => rfl, fun _ => rfl, fun _ _ => rfl, fun _ _ => rfl, fun _ _ => rfl, fun _ _ => rfl, fun _ _ _ => rfl, fun _ _ _ => rfl, fun _ _ _ => rfl, fun _ _ _ => rfl, fun _ _ _ => rfl, fun _ _ _ => rfl, fun _ _ => rfl, fun _ _ _ => rfl⟩
def cw (i : Nat) (o : Option (Option Cell)) : Option W := match o with
  | some (some (.w x)) => some x
  | some (some (.lst _)) => some (.own i)
  | _ => none
def co (o : Option (Option Cell)) : Option (List PyData) := match o with
  | some (some (.lst ds)) => some ds
  | _ => none
def setC (i : Nat) (o : Option Cell) (S : Sx) : RS := match o with
  | some c => .nx (sset S i c)
  | none => .bad
theorem kSG :
    (∀ (rho : List (Option Cell)) (π : Option Pen) (i : Nat), vget ⟨rho, π⟩ i = cw i rho[i]?) ∧ (∀ (i : Nat) (x : W), cw i (some (some (.w x))) = some x) ∧ (∀ (i : Nat) (ds : List PyData), cw i (some (some (.lst ds))) = some (.own i)) ∧
    (∀ (rho : List (Option Cell)) (π : Option Pen) (i : Nat), olist ⟨rho, π⟩ i = co rho[i]?) ∧ (∀ (ds : List PyData), co (some (some (.lst ds))) = some ds) ∧
    (∀ (i : Nat) (w : W) (S : Sx), setK i w S = if S.rho.length ≤ i then .bad else setC i (cellOf w) S) ∧ (∀ (i : Nat) (c : Cell) (S : Sx), setC i (some c) S = .nx (sset S i c)) ∧ (∀ (i : Nat) (ds : List PyData) (S : Sx), setOK i (.new ds) S = if S.rho.length ≤ i then .bad else .nx (sset S i (.lst ds))) ∧
    (∀ (rho : List (Option Cell)) (π : Option Pen) (i : Nat), lview ⟨rho, π⟩ (.own i) = co rho[i]?) := by
  refine ⟨fun rho π i => ?_, fun _ _ => rfl, fun _ _ => rfl, fun _ _ _ => rfl, fun _ => rfl, fun _ _ _ => rfl, fun _ _ _ => rfl, fun _ _ _ => rfl, fun _ _ _ => rfl⟩
  show (match rho[i]? with
    | some (some (.w x)) => some x
    | some (some (.lst _)) => some (.own i)
    | _ => none) = cw i rho[i]?
  rfl
theorem sset_mk {rho : List (Option Cell)} {π : Option Pen} {i : Nat} {c : Cell} : sset ⟨rho, π⟩ i c = ⟨rho.set i (some c), π⟩ := rfl

/-- so many draws are left -/
structure PenOk (n : Nat) (π : Pen) : Prop where
  lo : 0 ≤ π.i
  hi : π.i + n ≤ 2 ^ 60
theorem PenOk.mono {n m : Nat} {π : Pen} (h : PenOk n π) (l : m ≤ n) : PenOk m π := ⟨h.lo, by have := h.hi; omega⟩
theorem log2_small {a : Int} {k : Nat} (h : a.natAbs < 2 ^ k) : a.natAbs.log2 ≤ k := by
  by_cases z : a.natAbs = 0
  · rw [z]; simp
  · exact Nat.le_of_lt ((Nat.log2_lt z).2 h)
/-- a bound for factors -/
def Lim : Nat := 2 ^ 400000
theorem lim_of {i : Int} (h : i.natAbs < 2 ^ 200) : i.natAbs < Lim := Nat.lt_of_lt_of_le h (Nat.pow_le_pow_right (by decide) (by decide))
theorem lim_mod {a m : Int} (h : 0 < m) (hm : m < 2 ^ 199) : (a % m).natAbs < Lim := by
  have h1 := Int.emod_nonneg a (Int.ne_of_gt h)
  have h2 := Int.emod_lt_of_pos a h
  exact lim_of (by omega)
theorem gMul_ok {S : Sx} {i j : Int} (hi : i.natAbs < Lim) (hj : j.natAbs < Lim) : gMul S (.d (.int i)) (.d (.int j)) = some (.d (.int (i * j))) := by
  have h1 := log2_small hi
  have h2 := log2_small hj
  show (if decide _ = true then some (W.d (.int (i * j))) else none) = _
  rw [if_pos (decide_eq_true (by omega))]
theorem gMod_ok {S : Sx} {i j : Int} (h : 0 < j) : gMod S (.d (.int i)) (.d (.int j)) = some (.d (.int (i % j))) := by
  show (if decide _ = true then some (W.d (.int (i % j))) else none) = _
  rw [if_pos (decide_eq_true h)]
theorem gDiv_ok {S : Sx} {i j : Int} (h : 0 < j) (hj : j.natAbs < 2 ^ 8000) : gDiv S (.d (.int i)) (.d (.int j)) = some (.d (.int (i / j))) := by
  have h2 := log2_small hj
  show (if (decide _ && decide _) = true then some (W.d (.int (i / j))) else none) = _
  rw [if_pos (by rw [Bool.and_eq_true]; exact ⟨decide_eq_true h, decide_eq_true (by omega)⟩)]
theorem small_pow {i : Int} (n : Nat) (h : i.natAbs < 2 ^ 70) (l : 70 ≤ n) : i.natAbs < 2 ^ n := Nat.lt_of_lt_of_le h (Nat.pow_le_pow_right (by decide) l)
/-- the pen -/
def penK (w o u : W) (S3 : Sx) : RS := match o, S3.pen, wi u, wi w with
  | .pen, some π, some 1, some z => .nx { S3 with pen := some { π with i := z } }
  | .pen, some π, some 2, some z => .nx { S3 with pen := some { π with z := z } }
  | _, _, _, _ => .bad
theorem kSP :
    (∀ (me mo mk : ME) (S : Sx), mSetPen me mo mk S = RE.go (me S) fun w S1 => RE.go (mo S1) fun o S2 => RE.go (mk S2) (penK w o)) ∧
    (∀ (rho : List (Option Cell)) (π : Pen) (z : Int), penK (.d (.int z)) .pen (.d (.int 1)) ⟨rho, some π⟩ = .nx ⟨rho, some ⟨π.ns, z, π.z⟩⟩) ∧ (∀ (rho : List (Option Cell)) (π : Pen) (z : Int), penK (.d (.int z)) .pen (.d (.int 2)) ⟨rho, some π⟩ = .nx ⟨rho, some ⟨π.ns, π.i, z⟩⟩) ∧
    (∀ (rho : List (Option Cell)) (π : Pen), gIxP ⟨rho, some π⟩ .pen (.d (.int 0)) = some (.d (.list (π.ns.map PyData.int)))) ∧ (∀ (rho : List (Option Cell)) (π : Pen), gIxP ⟨rho, some π⟩ .pen (.d (.int 1)) = some (.d (.int π.i))) ∧ (∀ (rho : List (Option Cell)) (π : Pen), gIxP ⟨rho, some π⟩ .pen (.d (.int 2)) = some (.d (.int π.z))) :=
  ⟨fun _ _ _ _ => rfl, fun _ _ _ => rfl, fun _ _ _ => rfl, fun _ _ => rfl, fun _ _ => rfl, fun _ _ => rfl⟩
theorem gLen_l {S : Sx} {w : W} {ds : List PyData} (h : sview S w = some ds) (hs : ws w = none) : gLen S [w] = some (.d (.int ds.length)) := by
  show (match ws w with
    | some x => if x.length ≤ 16777216 then some (W.d (.int x.length)) else none
    | none => (sview S w).map fun (ds : List PyData) => W.d (.int ds.length)) = _
  rw [hs]
  show (sview S w).map _ = _
  rw [h]; rfl
theorem kSL :
    (∀ (S : Sx) (ds : List PyData), gLen S [.d (.list ds)] = some (.d (.int ds.length))) ∧ (∀ (S : Sx) (ds : List PyData), gLen S [.d (.tuple ds)] = some (.d (.int ds.length))) ∧ (∀ (S : Sx) (ds : List PyData), gLen S [.new ds] = some (.d (.int ds.length))) ∧
    (∀ (S : Sx) (ds : List PyData) (i : Int), gIxL S (.d (.list ds)) (.d (.int i)) = (atI ds i).map .d) ∧ (∀ (S : Sx) (ds : List PyData) (i : Int), gIxT S (.d (.tuple ds)) (.d (.int i)) = (atI ds i).map .d) ∧ (∀ (S : Sx) (ds : List PyData) (i : Int), gIxL S (.new ds) (.d (.int i)) = (atI ds i).map .d) :=
  ⟨fun _ _ => rfl, fun _ _ => rfl, fun _ _ => rfl, fun _ _ _ => rfl, fun _ _ _ => rfl, fun _ _ _ => rfl⟩
theorem atI_nat {α : Type} {xs : List α} {k : Nat} (h : k < xs.length) : atI xs (k : Int) = some xs[k] := by
  unfold atI ixN
  rw [if_pos (by omega), if_pos (by omega)]
  show xs[(k : Int).toNat]? = _
  rw [Int.toNat_natCast, List.getElem?_eq_getElem h]
theorem atI_lt {α : Type} {xs : List α} {i : Int} (h0 : 0 ≤ i) (h : i < xs.length) : ∃ x, atI xs i = some x ∧ x ∈ xs := by
  obtain ⟨k, rfl⟩ := Int.eq_ofNat_of_zero_le h0
  have hk : k < xs.length := by omega
  exact ⟨xs[k], atI_nat hk, List.getElem_mem hk⟩
theorem canLay_ints : ∀ ns : List Int, PyData.canLay0 (.list (ns.map PyData.int)) = true := by
  intro ns
  have : PyData.canLayAll0 (ns.map PyData.int) = true := by
    induction ns with
    | nil => rfl
    | cons n ns ih => simp only [List.map_cons, PyData.canLayAll0, PyData.canLay0, ih, Bool.and_self]
  simpa only [PyData.canLay0] using this
def outF (π : Option Pen) : RS → RF
  | .rt w S' => match outW S' w with
    | some w' => .ok w' (penOut π S'.pen)
    | none => .bad
  | .nx S' => .ok (.d .none) (penOut π S'.pen)
  | .ex c l S' => .ex c l (penOut π S'.pen)
  | _ => .bad
theorem kSO :
    (∀ (n : Nat) (m : MS) (ws : List W) (π : Option Pen), ofBody n m ws π = outF π (m (start0 n ws π))) ∧ (∀ (π : Option Pen) (x : PyData) (S : Sx), outF π (.rt (.d x) S) = .ok (.d x) (penOut π S.pen)) ∧ (∀ (π : Option Pen) (ds : List PyData) (S : Sx), outF π (.rt (.new ds) S) = .ok (.new ds) (penOut π S.pen)) ∧
    (∀ (π : Option Pen) (S : Sx), outF π (.nx S) = .ok (.d .none) (penOut π S.pen)) ∧ (∀ (π : Option Pen) (c : Nat) (l : Option Int) (S : Sx), outF π (.ex c l S) = .ex c l (penOut π S.pen)) ∧ (∀ (π : Option Pen), penOut none π = none) ∧ (∀ (π : Pen) (π' : Option Pen), penOut (some π) π' = π') := by
  refine ⟨fun n m ws π => ?_, fun _ _ _ => rfl, fun _ _ _ => rfl, fun _ _ => rfl, fun _ _ _ _ => rfl, fun _ => rfl, fun _ _ => rfl⟩
  show (match m (start0 n ws π) with
    | .rt w S' => match outW S' w with
      | some w' => RF.ok w' (penOut π S'.pen)
      | none => .bad
    | .nx S' => .ok (.d .none) (penOut π S'.pen)
    | .ex c l S' => .ex c l (penOut π S'.pen)
    | _ => .bad) = outF π (m (start0 n ws π))
  cases m (start0 n ws π) <;> rfl
theorem outF_own {π : Option Pen} {rho : List (Option Cell)} {i : Nat} {q : Option Pen} {ds : List PyData} (h : co rho[i]? = some ds) : outF π (.rt (.own i) ⟨rho, q⟩) = .ok (.new ds) (penOut π q) := by
  show (match outW ⟨rho, q⟩ (.own i) with
    | some w' => RF.ok w' (penOut π q)
    | none => .bad) = _
  have : outW ⟨rho, q⟩ (.own i) = some (.new ds) := by
    show (match rho[i]? with
      | some (some (.lst ds)) => some (W.new ds)
      | _ => none) = _
    unfold co at h
    split at h
    · cases h; rfl
    · cases h
  rw [this]
/-- calls -/
theorem call_none {n : Nat} {F : PF} {S : Sx} {ws as : List W} {w : W} {π : Option Pen} (h1 : argWs ws = some as) (h2 : as.length = n) (h3 : usesPen as = false) (h : F as none = .ok w π) : callF n F S ws = .ok w S := by
  unfold callF
  rw [h1]
  show (if as.length = n then _ else _) = _
  rw [if_pos h2, h3]
  show (match F as none with
    | .ok w _ => RE.ok w S
    | .ex c l _ => .ex c l S
    | .bad => .bad) = _
  rw [h]
theorem call_none_ex {n : Nat} {F : PF} {S : Sx} {ws as : List W} {c : Nat} {l : Option Int} {π : Option Pen} (h1 : argWs ws = some as) (h2 : as.length = n) (h3 : usesPen as = false) (h : F as none = .ex c l π) : callF n F S ws = .ex c l S := by
  unfold callF
  rw [h1]
  show (if as.length = n then _ else _) = _
  rw [if_pos h2, h3]
  show (match F as none with
    | .ok w _ => RE.ok w S
    | .ex c l _ => .ex c l S
    | .bad => .bad) = _
  rw [h]
theorem call_pen {n : Nat} {F : PF} {rho : List (Option Cell)} {π π' : Pen} {ws as : List W} {w : W} (h1 : argWs ws = some as) (h2 : as.length = n) (h3 : usesPen as = true) (h : F as (some π) = .ok w (some π')) : callF n F ⟨rho, some π⟩ ws = .ok w ⟨rho, some π'⟩ := by
  unfold callF
  rw [h1]
  show (if as.length = n then _ else _) = _
  rw [if_pos h2, h3]
  show (match F as (some π) with
    | .ok w (some π') => RE.ok w ⟨rho, some π'⟩
    | .ex c l (some π') => .ex c l ⟨rho, some π'⟩
    | _ => .bad) = _
  rw [h]
theorem kCall (n : Nat) (F : PF) (ms : MA) (S : Sx) : mCall n F ms S = RE.bind (ms S) fun ws S1 => callF n F S1 ws := Eq.trans (Eq.refl _) (Eq.refl _)
/-- displays -/
def lstC (o : Option (List PyData)) (S : Sx) : RE W := match o with
  | some ds => if ds.length ≤ 16777216 then .ok (.new ds) S else .bad
  | none => .bad
def tupC (o : Option (List PyData)) (S : Sx) : RE W := match o with
  | some ds => if ds.length ≤ 16777216 then .ok (.d (.tuple ds)) S else .bad
  | none => .bad
theorem kD :
    (∀ (ms : MA) (S : Sx), mLst ms S = RE.bind (ms S) fun wl S1 => lstC (argDs wl) S1) ∧ (∀ (ms : MA) (S : Sx), mTup ms S = RE.bind (ms S) fun wl S1 => tupC (argDs wl) S1) ∧
    (∀ (ds : List PyData) (S : Sx), lstC (some ds) S = if ds.length ≤ 16777216 then .ok (.new ds) S else .bad) ∧ (∀ (ds : List PyData) (S : Sx), tupC (some ds) S = if ds.length ≤ 16777216 then .ok (.d (.tuple ds)) S else .bad) ∧
    (argDs [] = some []) ∧ (∀ (x : PyData) (wl : List W), argDs (.d x :: wl) = (argDs wl).map (x :: ·)) ∧ (∀ (ds : List PyData) (wl : List W), argDs (.new ds :: wl) = (argDs wl).map (.list ds :: ·)) := by
  refine ⟨fun _ _ => rfl, fun _ _ => rfl, fun _ _ => rfl, fun _ _ => rfl, rfl, fun x wl => ?_, fun ds wl => ?_⟩
  · show (match argD (.d x), argDs wl with
      | some a, some as => some (a :: as)
      | _, _ => none) = _
    cases argDs wl <;> rfl
  · show (match argD (.new ds), argDs wl with
      | some a, some as => some (a :: as)
      | _, _ => none) = _
    cases argDs wl <;> rfl
theorem eqD_seq {x y : PyData} (h : flatD x = none) (hx : SeqAt.shaped x = true) (hy : SeqAt.shaped y = true) : eqD x y = some (PyData.eqv x y) := by
  unfold eqD
  rw [h]
  show (if (SeqAt.shaped x && SeqAt.shaped y) = true then _ else _) = _
  rw [hx, hy]; rfl
theorem gNe_of {S : Sx} {a b : W} {x y : PyData} {c : Bool} (ha : dview S a = some x) (hb : dview S b = some y) (h : eqD x y = some c) : gNe S a b = some (.d (.bool (!c))) := by
  unfold gNe
  rw [ha, hb]
  show (eqD x y).map _ = _
  rw [h]; rfl
theorem gEq_of {S : Sx} {a b : W} {x y : PyData} {c : Bool} (ha : dview S a = some x) (hb : dview S b = some y) (h : eqD x y = some c) : gEq S a b = some (.d (.bool c)) := by
  unfold gEq
  rw [ha, hb]
  show (eqD x y).map _ = _
  rw [h]; rfl
theorem depth_flat {xs : List PyData} (h : ∀ x ∈ xs, x.depth = 0) : PyData.depth (.list xs) = 1 ∧ PyData.depth (.tuple xs) = 1 := by
  have : PyData.depthAll xs = 0 := by
    induction xs with
    | nil => rfl
    | cons x xs ih => simp only [PyData.depthAll, h x (List.mem_cons_self ..), ih fun y hy => h y (List.mem_cons_of_mem _ hy), Nat.max_self]
  simp only [PyData.depth, this, Nat.zero_add, and_self]
theorem shaped_ints (ns : List Int) : SeqAt.shaped (.list (ns.map PyData.int)) = true := by
  unfold SeqAt.shaped
  rw [canLay_ints, (depth_flat fun x hx => by obtain ⟨n, _, rfl⟩ := List.mem_map.1 hx; rfl).1]
  rfl
theorem gNe_ints {S : Sx} {ns : List Int} : gNe S (.d (.list (ns.map PyData.int))) (.new []) = some (.d (.bool (!ns.isEmpty))) := by
  rw [gNe_of (x := .list (ns.map PyData.int)) (y := .list []) rfl rfl (eqD_seq rfl (shaped_ints ns) (by decide))]
  cases ns <;> rfl
end Vf

set_option Elab.async false
set_option linter.all false
set_option maxRecDepth 100000
set_option maxHeartbeats 4000000
namespace K01
open PySem PySem.Spec PyProof.Rows L2 Vf
local macro_rules | `(tactic| walk_at "ks") => `(tactic| simp only [kSO, start0, kSM, kSE, kSV, kSP, kSL, kSG, kD, Option.map_some, sset_mk, Nat.reduceAdd, Nat.reduceLeDiff, ↓reduceIte, List.map_cons, List.map_nil, List.cons_append, List.nil_append, List.replicate, List.getElem?_cons_zero, List.getElem?_cons_succ, List.set_cons_zero, List.set_cons_succ, List.length_cons, List.length_nil])
theorem next_ok {n : Nat} {π : Pen} (h : PenOk (n + 1) π) : ∃ z, F__law_next [.pen] (some π) = .ok (.d (.int z)) (some { π with i := π.i + 1 }) ∧ PenOk n { π with i := π.i + 1 } := by
  obtain ⟨ns, i, z⟩ := π
  have hl := h.lo
  have hh := h.hi
  dsimp only at hl hh
  have li : i.natAbs < Lim := lim_of (by omega)
  unfold F__law_next m__law_next
  walk_at "ks"
  rw [gMul_ok li (lim_of (by decide))]
  walk_at "ks"
  rw [gNe_ints]
  walk_at "ks"
  have main : ∀ c : Int, ∃ z1, outF (some ⟨ns, i, z⟩) (RS.seq (mIfS (mAndT (mTest (mBin gLt (mVar 1) (mFn gLen (mCons (mBin gIxP (mVar 0) (mC (PyData.int 0))) mNil)))) (mTest (mBin gGe (mVar 2) (mBin gPow (mC (PyData.int 10)) (mC (PyData.int 18)))))) (mRet (mVar 2)) mSkip ⟨[some (.w .pen), some (.w (.d (.int i))), some (.w (.d (.int c))), none, none, none], some ⟨ns, i + 1, z⟩⟩)
      (mSeq (mSet 3 (mBin gMod (mFn gInt (mCons (mBin gAdd (mBin gAdd (mBin gMod (mFn gInt (mCons (mVar 2) (mNil))) (mC (.int 2147483587))) (mBin gMul (mVar 1) (mC (.int 30103)))) (mC (.int 79))) (mNil))) (mC (.int 2147483587))))
      (mSeq (mSet 4 (mBin gMod (mFn gInt (mCons (mBin gAdd (mBin gAdd (mBin gMul (mVar 3) (mVar 3)) (mBin gMul (mVar 1) (mC (.int 70039)))) (mC (.int 61))) (mNil))) (mC (.int 2147483563))))
      (mSeq (mSet 5 (mBin gMod (mFn gInt (mCons (mBin gAdd (mBin gAdd (mBin gMul (mVar 4) (mVar 4)) (mVar 3)) (mBin gMul (mBin gMul (mVar 1) (mVar 1)) (mC (.int 37)))) (mNil))) (mC (.int 2147483549))))
      (mRet (mBin gAdd (mBin gMul (mBin gAdd (mBin gMul (mVar 5) (mC (.int 2147483587))) (mVar 4)) (mC (.int 2147483563))) (mVar 3))))))) = .ok (.d (.int z1)) (some ⟨ns, i + 1, z⟩) := by
    intro c
    have tail : ∃ z1, outF (some ⟨ns, i, z⟩) ((mSeq (mSet 3 (mBin gMod (mFn gInt (mCons (mBin gAdd (mBin gAdd (mBin gMod (mFn gInt (mCons (mVar 2) (mNil))) (mC (.int 2147483587))) (mBin gMul (mVar 1) (mC (.int 30103)))) (mC (.int 79))) (mNil))) (mC (.int 2147483587))))
      (mSeq (mSet 4 (mBin gMod (mFn gInt (mCons (mBin gAdd (mBin gAdd (mBin gMul (mVar 3) (mVar 3)) (mBin gMul (mVar 1) (mC (.int 70039)))) (mC (.int 61))) (mNil))) (mC (.int 2147483563))))
      (mSeq (mSet 5 (mBin gMod (mFn gInt (mCons (mBin gAdd (mBin gAdd (mBin gMul (mVar 4) (mVar 4)) (mVar 3)) (mBin gMul (mBin gMul (mVar 1) (mVar 1)) (mC (.int 37)))) (mNil))) (mC (.int 2147483549))))
      (mRet (mBin gAdd (mBin gMul (mBin gAdd (mBin gMul (mVar 5) (mC (.int 2147483587))) (mVar 4)) (mC (.int 2147483563))) (mVar 3)))))) ⟨[some (.w .pen), some (.w (.d (.int i))), some (.w (.d (.int c))), none, none, none], some ⟨ns, i + 1, z⟩⟩) = .ok (.d (.int z1)) (some ⟨ns, i + 1, z⟩) := by
      walk_at "ks"
      rw [gMod_ok (by decide)]
      walk_at "ks"
      rw [gMul_ok li (lim_of (by decide))]
      walk_at "ks"
      rw [gMod_ok (by decide)]
      walk_at "ks"
      rw [gMul_ok (lim_mod (by decide) (by decide)) (lim_mod (by decide) (by decide))]
      walk_at "ks"
      rw [gMul_ok li (lim_of (by decide))]
      walk_at "ks"
      rw [gMod_ok (by decide)]
      walk_at "ks"
      rw [gMul_ok (lim_mod (by decide) (by decide)) (lim_mod (by decide) (by decide))]
      walk_at "ks"
      rw [gMul_ok li li]
      walk_at "ks"
      rw [gMul_ok (lim_of (by
        have e : (i * i).natAbs = i.natAbs * i.natAbs := Int.natAbs_mul i i
        have l : i.natAbs ≤ 2 ^ 60 := by omega
        rw [e]
        exact Nat.lt_of_le_of_lt (Nat.mul_le_mul l l) (by decide))) (lim_of (by decide))]
      walk_at "ks"
      rw [gMod_ok (by decide)]
      walk_at "ks"
      rw [gMul_ok (lim_mod (by decide) (by decide)) (lim_of (by decide))]
      walk_at "ks"
      rw [gMul_ok ?_ (lim_of (by decide))]
      · walk_at "ks"
        exact ⟨_, rfl⟩
      · generalize hA : ((((c % 2147483587 + i * 30103 + 79) % 2147483587 * ((c % 2147483587 + i * 30103 + 79) % 2147483587) + i * 70039 + 61) % 2147483563 * (((c % 2147483587 + i * 30103 + 79) % 2147483587 * ((c % 2147483587 + i * 30103 + 79) % 2147483587) + i * 70039 + 61) % 2147483563) + (c % 2147483587 + i * 30103 + 79) % 2147483587 + i * i * 37) % 2147483549) = A
        generalize hB : (((c % 2147483587 + i * 30103 + 79) % 2147483587 * ((c % 2147483587 + i * 30103 + 79) % 2147483587) + i * 70039 + 61) % 2147483563) = B
        have a1 : 0 ≤ A := by rw [← hA]; exact Int.emod_nonneg _ (by decide)
        have a2 : A < 2147483549 := by rw [← hA]; exact Int.emod_lt_of_pos _ (by decide)
        have b1 : 0 ≤ B := by rw [← hB]; exact Int.emod_nonneg _ (by decide)
        have b2 : B < 2147483563 := by rw [← hB]; exact Int.emod_lt_of_pos _ (by decide)
        exact lim_of (by omega)
    obtain ⟨z1, tail⟩ := tail
    walk_at "ks"
    by_cases h1 : i < ((ns.map PyData.int).length : Int)
    · simp only [h1, decide_true]
      walk_at "ks"
      rw [show ∀ S : Sx, gPow S (.d (.int 10)) (.d (.int 18)) = some (.d (.int (10 ^ 18))) from fun _ => rfl]
      walk_at "ks"
      by_cases h2 : (10 : Int) ^ 18 ≤ c
      · simp only [h2, decide_true]
        walk_at "ks"
        exact ⟨_, rfl⟩
      · simp only [h2, decide_false]
        walk_at "ks"
        exact ⟨z1, tail⟩
    · simp only [h1, decide_false]
      exact ⟨z1, tail⟩
  have fin : PenOk n ⟨ns, i + 1, z⟩ := ⟨by show 0 ≤ i + 1; omega, by show i + 1 + n ≤ 2 ^ 60; omega⟩
  cases ns with
  | nil =>
    simp only [List.isEmpty_nil, Bool.not_true]
    walk_at "ks"
    obtain ⟨z1, e⟩ := main (i * 1051 + 53)
    exact ⟨z1, e, fin⟩
  | cons x ns =>
    simp only [List.isEmpty_cons, Bool.not_false]
    walk_at "ks"
    have hp : (0 : Int) < ((ns.map PyData.int).length + 1 : Nat) := by omega
    rw [gMod_ok hp]
    walk_at "ks"
    obtain ⟨d, e1, e2⟩ := atI_lt (xs := PyData.int x :: ns.map PyData.int) (i := i % ((ns.map PyData.int).length + 1 : Nat)) (Int.emod_nonneg _ (by omega)) (by
      have := Int.emod_lt_of_pos i hp
      simpa using this)
    obtain ⟨c, rfl⟩ : ∃ c, d = .int c := by
      rcases List.mem_cons.1 e2 with rfl | e2
      · exact ⟨x, rfl⟩
      · obtain ⟨c, _, rfl⟩ := List.mem_map.1 e2
        exact ⟨c, rfl⟩
    rw [e1]
    walk_at "ks"
    obtain ⟨z1, e⟩ := main c
    exact ⟨z1, e, fin⟩
theorem draw_ok {n : Nat} {π : Pen} {u : Int} (h : PenOk (n + 1) π) (hu : 0 < u) (hu2 : u < 2 ^ 100) : ∃ d π', F__law_draw [.pen, .d (.int u)] (some π) = .ok (.d (.int d)) (some π') ∧ 0 ≤ d ∧ d < u ∧ PenOk n π' := by
  have hdiv : u.natAbs < 2 ^ 8000 := Nat.lt_of_lt_of_le (show u.natAbs < 2 ^ 100 by omega) (Nat.pow_le_pow_right (by decide) (by decide))
  have tail : ∀ π1 : Pen, PenOk n π1 → ∃ d π', outF (some π) (mSeq (mSet 2 (mBin gMod (mFn gInt (mCons (mBin gIxP (mVar 0) (mC (.int 2))) (mNil))) (mVar 1)))
    (mSeq (mSetPen (mBin gDiv (mBin gIxP (mVar 0) (mC (.int 2))) (mVar 1)) (mVar 0) (mC (.int 2)))
    (mRet (mVar 2))) ⟨[some (.w .pen), some (.w (.d (.int u))), none], some π1⟩) = .ok (.d (.int d)) (some π') ∧ 0 ≤ d ∧ d < u ∧ PenOk n π' := by
    intro π1 h1
    walk_at "ks"
    rw [gMod_ok hu]
    walk_at "ks"
    rw [gDiv_ok hu hdiv]
    walk_at "ks"
    exact ⟨_, _, rfl, Int.emod_nonneg _ (Int.ne_of_gt hu), Int.emod_lt_of_pos _ hu, h1.lo, h1.hi⟩
  unfold F__law_draw m__law_draw
  walk_at "ks"
  by_cases hz : π.z < u
  · simp only [hz, decide_true]
    walk_at "ks"
    simp only [kCall]
    walk_at "ks"
    obtain ⟨z, e, k⟩ := next_ok h
    rw [call_pen (n := 1) (ws := [.pen]) (as := [.pen]) rfl rfl rfl e]
    walk_at "ks"
    obtain ⟨d, π', e2, r⟩ := tail ⟨π.ns, π.i + 1, z⟩ ⟨k.lo, k.hi⟩
    refine ⟨d, π', ?_, r⟩
    rw [← e2]
    walk_at "ks"
  · simp only [hz, decide_false]
    walk_at "ks"
    obtain ⟨d, π', e2, r⟩ := tail π (h.mono (by omega))
    refine ⟨d, π', ?_, r⟩
    rw [← e2]
    walk_at "ks"
theorem call_draw {n : Nat} {π : Pen} {u : Int} (rho : List (Option Cell)) (h : PenOk (n + 1) π) (hu : 0 < u) (hu2 : u < 2 ^ 100) : ∃ d π', callF 2 F__law_draw ⟨rho, some π⟩ [.pen, .d (.int u)] = .ok (.d (.int d)) ⟨rho, some π'⟩ ∧ 0 ≤ d ∧ d < u ∧ PenOk n π' := by
  obtain ⟨d, π', e, r⟩ := draw_ok h hu hu2
  exact ⟨d, π', call_pen (n := 2) (ws := [.pen, .d (.int u)]) (as := [.pen, .d (.int u)]) rfl rfl rfl e, r⟩
end K01

set_option Elab.async false
set_option linter.all false
set_option maxRecDepth 100000
set_option maxHeartbeats 1000000
/-! Vm2: comprehensions and loops reckoned. -/
namespace Vf
open PySem PySem.Spec PyProof.Rows L2

theorem sx_pen {S S' : Sx} (h : S'.pen = S.pen) : ({ S with pen := S'.pen } : Sx) = S := by rw [h]
/-- one item of a comprehension -/
def CStep (t : Tg) (vs : List Nat) (mt : MT) (me : ME) (S : Sx) (d : PyData) (r : Option PyData) : Prop :=
  ∃ S1, bindT t (wipeS S vs) d = some S1 ∧ ((∃ S2 w S3 x, mt S1 = .ok true S2 ∧ me S2 = .ok w S3 ∧ S3.pen = S.pen ∧ argD w = some x ∧ r = some x) ∨ ∃ S2, mt S1 = .ok false S2 ∧ S2.pen = S.pen ∧ r = none)
theorem compS_go {t : Tg} {vs : List Nat} {mt : MT} {me : ME} {S : Sx} {g : PyData → Option PyData} : ∀ (ds acc : List PyData), (∀ d ∈ ds, CStep t vs mt me S d (g d)) → compS t vs mt me ds acc S = .ok (acc ++ ds.filterMap g) S
  | [], acc, _ => by rw [List.filterMap_nil, List.append_nil]; rfl
  | d :: ds, acc, h => by
    obtain ⟨S1, e1, h1⟩ := h d (List.mem_cons_self ..)
    have ih := fun acc => compS_go (t := t) (vs := vs) (mt := mt) (me := me) (S := S) (g := g) ds acc fun d' hd => h d' (List.mem_cons_of_mem _ hd)
    rcases h1 with ⟨S2, w, S3, x, e2, e3, e4, e5, e6⟩ | ⟨S2, e2, e3, e6⟩
    · show (match bindT t (wipeS S vs) d with
        | none => RE.bad
        | some S1 => (mt S1).bindB fun b S2 => match b with
          | false => compS t vs mt me ds acc { S with pen := S2.pen }
          | true => (me S2).bindB fun w S3 => match argD w with
            | some x => compS t vs mt me ds (acc ++ [x]) { S with pen := S3.pen }
            | none => .bad) = _
      rw [e1]
      show (mt S1).bindB _ = _
      rw [e2]
      show (me S2).bindB _ = _
      rw [e3]
      show (match argD w with
            | some x => compS t vs mt me ds (acc ++ [x]) { S with pen := S3.pen }
            | none => .bad) = _
      rw [e5]
      show compS t vs mt me ds (acc ++ [x]) { S with pen := S3.pen } = _
      rw [sx_pen e4, ih, List.filterMap_cons, e6]
      simp
    · show (match bindT t (wipeS S vs) d with
        | none => RE.bad
        | some S1 => (mt S1).bindB fun b S2 => match b with
          | false => compS t vs mt me ds acc { S with pen := S2.pen }
          | true => (me S2).bindB fun w S3 => match argD w with
            | some x => compS t vs mt me ds (acc ++ [x]) { S with pen := S3.pen }
            | none => .bad) = _
      rw [e1]
      show (mt S1).bindB _ = _
      rw [e2]
      show compS t vs mt me ds acc { S with pen := S2.pen } = _
      rw [sx_pen e3, ih, List.filterMap_cons, e6]
theorem comp_go {t : Tg} {vs : List Nat} {mi : MI} {mt : MT} {me : ME} {S S1 : Sx} {ds : List PyData} {g : PyData → Option PyData} (e : mi S = .ok ds S1) (no : noOwn S1 vs = true) (len : ds.length ≤ 16777215) (h : ∀ d ∈ ds, CStep t vs mt me S1 d (g d)) :
    mComp t vs mi mt me S = .ok (.new (ds.filterMap g)) S1 := by
  unfold mComp
  rw [e]
  show (if (noOwn S1 vs && decide (ds.length ≤ 16777215)) = true then fin (compS t vs mt me ds [] S1) else .bad) = _
  rw [no, decide_eq_true len, if_pos (by decide), compS_go ds [] h]
  rfl
/-- no test -/
def MStep (t : Tg) (vs : List Nat) (me : ME) (S : Sx) (d x : PyData) : Prop := ∃ S1, bindT t (wipeS S vs) d = some S1 ∧ ∃ w S3, me S1 = .ok w S3 ∧ S3.pen = S.pen ∧ argD w = some x
theorem comp_map {t : Tg} {vs : List Nat} {mi : MI} {me : ME} {S S1 : Sx} {ds : List PyData} {f : PyData → PyData} (e : mi S = .ok ds S1) (no : noOwn S1 vs = true) (len : ds.length ≤ 16777215) (h : ∀ d ∈ ds, MStep t vs me S1 d (f d)) :
    mComp t vs mi mYes me S = .ok (.new (ds.map f)) S1 := by
  have := comp_go (mt := mYes) (g := fun d => some (f d)) e no len fun d hd => by
    obtain ⟨S2, e1, w, S3, e2, e3, e4⟩ := h d hd
    exact ⟨S2, e1, .inl ⟨S2, w, S3, f d, rfl, e2, e3, e4, rfl⟩⟩
  rw [this]
  congr 2
  exact congrFun List.filterMap_eq_map' _
/-- with draws -/
def PStep (t : Tg) (vs : List Nat) (me : ME) (rho : List (Option Cell)) (R : PyData → PyData → Prop) (c : Nat) (d : PyData) : Prop :=
  ∀ (k : Nat) (π : Pen), PenOk (k + c) π → ∃ S1, bindT t (wipeS ⟨rho, some π⟩ vs) d = some S1 ∧ ∃ w rho' π' x, me S1 = .ok w ⟨rho', some π'⟩ ∧ argD w = some x ∧ R d x ∧ PenOk k π'
/-- item by item -/
inductive All2 (R : PyData → PyData → Prop) : List PyData → List PyData → Prop
  | nil : All2 R [] []
  | cons {d x : PyData} {ds xs : List PyData} : R d x → All2 R ds xs → All2 R (d :: ds) (x :: xs)
theorem All2.length {R : PyData → PyData → Prop} : ∀ {ds xs : List PyData}, All2 R ds xs → xs.length = ds.length
  | _, _, .nil => rfl
  | _, _, .cons _ r => by rw [List.length_cons, List.length_cons, r.length]
theorem All2.mem {R : PyData → PyData → Prop} : ∀ {ds xs : List PyData}, All2 R ds xs → ∀ x ∈ xs, ∃ d ∈ ds, R d x
  | _, _, .nil, x, h => by simp at h
  | _, _, .cons r rs, x, h => by
    rcases List.mem_cons.1 h with rfl | h
    · exact ⟨_, List.mem_cons_self .., r⟩
    · obtain ⟨d, hd, q⟩ := rs.mem x h
      exact ⟨d, List.mem_cons_of_mem _ hd, q⟩
theorem All2.at {R : PyData → PyData → Prop} : ∀ {ds xs : List PyData}, All2 R ds xs → ∀ (i : Nat) (d x : PyData), ds[i]? = some d → xs[i]? = some x → R d x
  | _, _, .nil, i, d, x, h, _ => by simp at h
  | _, _, .cons r rs, 0, d, x, h, h' => by
    simp at h h'
    subst h h'
    exact r
  | _, _, .cons r rs, i + 1, d, x, h, h' => rs.at i d x (by simpa using h) (by simpa using h')
theorem compS_pen {t : Tg} {vs : List Nat} {me : ME} {rho : List (Option Cell)} {R : PyData → PyData → Prop} {c : Nat} : ∀ (ds acc : List PyData) (n : Nat) (π : Pen), PenOk (n + c * ds.length) π → (∀ d ∈ ds, PStep t vs me rho R c d) →
    ∃ xs π', compS t vs mYes me ds acc ⟨rho, some π⟩ = .ok (acc ++ xs) ⟨rho, some π'⟩ ∧ All2 R ds xs ∧ PenOk n π'
  | [], acc, n, π, hp, _ => ⟨[], π, by rw [List.append_nil]; rfl, .nil, by simpa using hp⟩
  | d :: ds, acc, n, π, hp, h => by
    have hp' : PenOk ((n + c * ds.length) + c) π := hp.mono (by rw [List.length_cons, Nat.mul_succ]; omega)
    obtain ⟨S1, e1, w, rho', π1, x, e2, e3, rx, p1⟩ := h d (List.mem_cons_self ..) _ π hp'
    obtain ⟨xs, π2, e4, r4, p4⟩ := compS_pen ds (acc ++ [x]) n π1 p1 fun d' hd => h d' (List.mem_cons_of_mem _ hd)
    refine ⟨x :: xs, π2, ?_, .cons rx r4, p4⟩
    show (match bindT t (wipeS ⟨rho, some π⟩ vs) d with
        | none => RE.bad
        | some S1 => (me S1).bindB fun w S3 => match argD w with
            | some x => compS t vs mYes me ds (acc ++ [x]) { (⟨rho, some π⟩ : Sx) with pen := S3.pen }
            | none => .bad) = _
    rw [e1]
    show (me S1).bindB _ = _
    rw [e2]
    show (match argD w with
            | some x => compS t vs mYes me ds (acc ++ [x]) { (⟨rho, some π⟩ : Sx) with pen := some π1 }
            | none => .bad) = _
    rw [e3]
    show compS t vs mYes me ds (acc ++ [x]) ⟨rho, some π1⟩ = _
    rw [e4]
    simp
theorem comp_pen {t : Tg} {vs : List Nat} {mi : MI} {me : ME} {S : Sx} {rho : List (Option Cell)} {π : Pen} {R : PyData → PyData → Prop} {n c : Nat} {ds : List PyData} (e : mi S = .ok ds ⟨rho, some π⟩) (no : noOwn ⟨rho, some π⟩ vs = true) (len : ds.length ≤ 16777215) (hp : PenOk (n + c * ds.length) π) (h : ∀ d ∈ ds, PStep t vs me rho R c d) :
    ∃ xs π', mComp t vs mi mYes me S = .ok (.new xs) ⟨rho, some π'⟩ ∧ All2 R ds xs ∧ PenOk n π' := by
  obtain ⟨xs, π', e2, r⟩ := compS_pen ds [] n π hp h
  refine ⟨xs, π', ?_, r⟩
  unfold mComp
  rw [e]
  show (if (noOwn ⟨rho, some π⟩ vs && decide (ds.length ≤ 16777215)) = true then fin (compS t vs mYes me ds [] ⟨rho, some π⟩) else .bad) = _
  rw [no, decide_eq_true len, if_pos (by decide), e2]
  rfl
/-- a loop over items by an invariant -/
theorem loop_inv {t : Tg} {body : MS} (I : List PyData → Sx → Prop) (step : ∀ d ds S, I (d :: ds) S → ∃ S1, bindT t S d = some S1 ∧ ((∃ S2, body S1 = .nx S2 ∧ I ds S2) ∨ ∃ S2, body S1 = .ct S2 ∧ I ds S2)) : ∀ (ds : List PyData) (S : Sx), I ds S → ∃ S', loopS t body ds S = .nx S' ∧ I [] S'
  | [], S, h => ⟨S, rfl, h⟩
  | d :: ds, S, h => by
    obtain ⟨S1, e1, h1⟩ := step d ds S h
    rcases h1 with ⟨S2, e2, h2⟩ | ⟨S2, e2, h2⟩
    all_goals
      obtain ⟨S', e3, h3⟩ := loop_inv I step ds S2 h2
      refine ⟨S', ?_, h3⟩
      show (match bindT t S d with
        | none => RS.bad
        | some S' => match body S' with
          | .nx S'' => loopS t body ds S''
          | .ct S'' => loopS t body ds S''
          | .bk S'' => .nx S''
          | r => r) = _
      rw [e1]
      show (match body S1 with
          | .nx S'' => loopS t body ds S''
          | .ct S'' => loopS t body ds S''
          | .bk S'' => .nx S''
          | r => r) = _
      rw [e2]
      exact e3
theorem kFor (t : Tg) (mi : MI) (body : MS) (S : Sx) : mFor t mi body S = RE.go (mi S) fun ds S1 => loopS t body ds S1 := Eq.trans (Eq.refl _) (Eq.refl _)
theorem kIt :
    (∀ (me : ME) (S : Sx), mItT me S = RE.bind (me S) fun w S1 => RE.of (wt w) S1) ∧ (∀ (me : ME) (S : Sx), mItL me S = RE.bind (me S) fun w S1 => RE.of (itl S1 w) S1) ∧ (∀ (ma : ME) (S : Sx), mItR1 ma S = RE.bind (ma S) fun w S1 => RE.of (rg1 w) S1) ∧
    (∀ (S : Sx) (ds : List PyData), itl S (.new ds) = some ds) ∧ (∀ (S : Sx) (ds : List PyData), itl S (.d (.list ds)) = some ds) := ⟨fun _ _ => rfl, fun _ _ => rfl, fun _ _ => rfl, fun _ _ => rfl, fun _ _ => rfl⟩
theorem rg1_ok {n : Nat} (h : n < 2 ^ 62) : rg1 (.d (.int (n : Int))) = some (rngD 0 n) := by
  unfold rg1
  rw [show wi (.d (.int (n : Int))) = some (n : Int) from rfl]
  dsimp only
  rw [if_pos (by omega), Int.toNat_natCast]
theorem rngD_len (n : Nat) (lo : Int) : (rngD lo n).length = n := by simp [rngD]
theorem mem_rngD {d : PyData} {n : Nat} (h : d ∈ rngD 0 n) : ∃ k : Nat, d = .int (k : Int) ∧ k < n := by
  unfold rngD at h
  obtain ⟨k, hk, rfl⟩ := List.mem_map.1 h
  exact ⟨k, by simp, List.mem_range.1 hk⟩
/-! ### signs -/
theorem empty_cps : (Str.ofString "").cps = #[] := by decide +kernel
theorem glue_signs (cs : List Nat) : Txt.join (Str.ofString "") (cs.map fun c => (⟨#[c]⟩ : Str)) = ⟨cs.toArray⟩ := by
  rw [show Txt.join (Str.ofString "") (cs.map fun c => (⟨#[c]⟩ : Str)) = Str.join (Str.ofString "") (cs.map fun c => (⟨#[c]⟩ : Str)) from PySem.StrLaws.glued_eq_join _ _]
  induction cs with
  | nil => rfl
  | cons c cs ih =>
    cases cs with
    | nil => rfl
    | cons d cs =>
      show (⟨#[c]⟩ : Str) ++ (Str.ofString "") ++ Str.join (Str.ofString "") ((d :: cs).map fun c => (⟨#[c]⟩ : Str)) = _
      rw [ih]
      show (⟨#[c] ++ (Str.ofString "").cps ++ (d :: cs).toArray⟩ : Str) = _
      rw [empty_cps]
      congr 1
      apply Array.ext'
      simp
theorem strsD_map {α : Type} (f : α → Str) : ∀ xs : List α, strsD (xs.map fun x => PyData.str (f x)) = some (xs.map f)
  | [] => rfl
  | x :: xs => by
    show (strsD (xs.map fun x => PyData.str (f x))).map (f x :: ·) = _
    rw [strsD_map f xs]; rfl
theorem gJoin_ok {S : Sx} {w : W} {z : Str} {ds : List PyData} {ss : List Str} (h : sview S w = some ds) (hs : strsD ds = some ss) (hl : (ss.map (·.length)).sum + ss.length * z.length ≤ 16777216) : gJoin S (.d (.str z)) w = some (.d (.str (Txt.join z ss))) := by
  unfold gJoin
  rw [show ws (.d (.str z)) = some z from rfl, h]
  show (match some z, strsD ds with
    | some z, some ss => if (ss.map Str.length).sum + ss.length * z.length ≤ 16777216 then some (W.d (.str (Txt.join z ss))) else none
    | _, _ => none) = _
  rw [hs]
  show (if (ss.map (·.length)).sum + ss.length * z.length ≤ 16777216 then some (W.d (.str (Txt.join z ss))) else none) = _
  rw [if_pos hl]
theorem sum_ones (cs : List Nat) : ((cs.map fun c => (⟨#[c]⟩ : Str)).map Str.length).sum = cs.length := by
  induction cs with
  | nil => rfl
  | cons c cs ih => rw [List.map_cons, List.map_cons, List.sum_cons, ih, List.length_cons]; show 1 + _ = _; omega
theorem gJoin_signs {S : Sx} {w : W} {cs : List Nat} (h : sview S w = some (cs.map fun c => PyData.str ⟨#[c]⟩)) (hl : cs.length ≤ 1000) : gJoin S (.d (.str "")) w = some (.d (.str ⟨cs.toArray⟩)) := by
  rw [gJoin_ok h (strsD_map (fun c => (⟨#[c]⟩ : Str)) cs) (by rw [sum_ones, List.length_map, show Str.length (Str.ofString "") = 0 from by decide +kernel]; omega), glue_signs]
theorem kM1 (g : Sx → W → W → Option W) (z : Str) (me : ME) (S : Sx) : mM1 g (mC (.str z)) me S = RE.bind (me S) fun b S2 => RE.of (g S2 (.d (.str z)) b) S2 := Eq.trans (Eq.refl _) (Eq.refl _)

/-! ### tables -/
def sgc (b : Bool) : Nat := if b then 120 else 46
def rowS (r : List Bool) : Str := ⟨(r.map sgc).toArray⟩
def tabD (t : List (List Bool)) : PyData := .tuple (t.map fun r => .str (rowS r))
structure Tbl (t : List (List Bool)) (m : Nat) : Prop where
  r1 : 1 ≤ t.length
  r8 : t.length ≤ 8
  m1 : 1 ≤ m
  m8 : m ≤ 8
  row : ∀ r ∈ t, r.length = m
theorem rowS_len (r : List Bool) : (rowS r).length = r.length := by
  show ((r.map sgc).toArray).size = _
  simp
theorem tick_eq : Str.ofString "x" = ⟨#[120]⟩ := by decide +kernel
theorem blank_eq : Str.ofString "." = ⟨#[46]⟩ := by decide +kernel
theorem rowS_one (b : Bool) : rowS [b] = ⟨#[sgc b]⟩ := rfl
theorem gIxS_row {S : Sx} {r : List Bool} {k : Nat} (h : k < r.length) (hl : r.length ≤ 1000) : gIxS S (.d (.str (rowS r))) (.d (.int (k : Int))) = some (.d (.str ⟨#[sgc (r.getD k false)]⟩)) := by
  unfold gIxS
  rw [show ws (.d (.str (rowS r))) = some (rowS r) from rfl, show wi (.d (.int (k : Int))) = some (k : Int) from rfl]
  dsimp only
  rw [if_pos (by rw [rowS_len]; omega)]
  have e : (rowS r).cps.toList = r.map sgc := rfl
  rw [e, atI_nat (by rw [List.length_map]; exact h), Option.map_some, List.getElem_map]
  rw [List.getD_eq_getElem?_getD, List.getElem?_eq_getElem h, Option.getD_some]
theorem gIxT_row {S : Sx} {t : List (List Bool)} {k : Nat} (h : k < t.length) : gIxT S (.d (tabD t)) (.d (.int (k : Int))) = some (.d (.str (rowS (t.getD k [])))) := by
  show (atI (t.map fun r => PyData.str (rowS r)) (k : Int)).map W.d = _
  rw [atI_nat (by rw [List.length_map]; exact h), Option.map_some, List.getElem_map, List.getD_eq_getElem?_getD, List.getElem?_eq_getElem h, Option.getD_some]
theorem Tbl.at {t : List (List Bool)} {m : Nat} (T : Tbl t m) {k : Nat} (h : k < t.length) : (t.getD k []).length = m := by
  rw [List.getD_eq_getElem?_getD, List.getElem?_eq_getElem h, Option.getD_some]
  exact T.row _ (List.getElem_mem h)
theorem gLen_tab {S : Sx} {t : List (List Bool)} : gLen S [.d (tabD t)] = some (.d (.int t.length)) := by
  show some (W.d (.int ((t.map fun r => PyData.str (rowS r)).length : Nat))) = _
  rw [List.length_map]
theorem gLen_row {S : Sx} {r : List Bool} (hl : r.length ≤ 1000) : gLen S [.d (.str (rowS r))] = some (.d (.int r.length)) := by
  show (match ws (.d (.str (rowS r))) with
    | some x => if x.length ≤ 16777216 then some (W.d (.int x.length)) else none
    | none => (sview S (.d (.str (rowS r)))).map fun (ds : List PyData) => W.d (.int ds.length)) = _
  show (if (rowS r).length ≤ 16777216 then some (W.d (.int (rowS r).length)) else none) = _
  rw [rowS_len, if_pos (by omega)]
end Vf

set_option Elab.async false
set_option linter.all false
set_option maxRecDepth 100000
set_option maxHeartbeats 1000000
/-! Vm3: all, any, chains, membership reckoned. -/
namespace Vf
open PySem PySem.Spec PyProof.Rows L2

def chK (g' : Sx → W → W → Option W) (b : W) (mc : ME) (o : Option Bool) (S2 : Sx) : RE W := match o with
  | some true => (mc S2).bind fun c S3 => RE.of (g' S3 b c) S3
  | some false => .ok (.d (.bool false)) S2
  | none => .bad
def itsK (w : W) (S1 : Sx) : RE (List PyData) := match ws w with
  | some x => .ok (signsD x) S1
  | none => .bad
theorem kC :
    (∀ (g g' : Sx → W → W → Option W) (ma mb mc : ME) (S : Sx), mChain g g' ma mb mc S = RE.bind (ma S) fun a S1 => RE.bind (mb S1) fun b S2 => chK g' b mc ((g S2 a b).bind wb) S2) ∧
    (∀ (g' : Sx → W → W → Option W) (b : W) (mc : ME) (S : Sx), chK g' b mc (some true) S = RE.bind (mc S) fun c S3 => RE.of (g' S3 b c) S3) ∧ (∀ (g' : Sx → W → W → Option W) (b : W) (mc : ME) (S : Sx), chK g' b mc (some false) S = .ok (.d (.bool false)) S) ∧
    (∀ (me : ME) (S : Sx), mItS me S = RE.bind (me S) itsK) ∧ (∀ (x : Str) (S : Sx), itsK (.d (.str x)) S = .ok (signsD x) S) ∧ (∀ (T : Ty) (S : Sx) (x : PyData), gIsi T S (.d x) = some (.d (.bool (isT (tyD x) T)))) ∧
    (∀ (rho : List (Option Cell)) (π : Option Pen) (vs : List Nat), wipeS ⟨rho, π⟩ vs = ⟨vs.foldr (fun v rho => rho.set v none) rho, π⟩) :=
  ⟨fun _ _ _ _ _ _ => rfl, fun _ _ _ _ => rfl, fun _ _ _ _ => rfl, fun _ _ => rfl, fun _ _ => rfl, fun _ _ _ => rfl, fun _ _ _ => rfl⟩
theorem bindT_pn {t : Tg} {S S1 : Sx} {d : PyData} (h : bindT t S d = some S1) : S1.pen = S.pen := by
  unfold bindT at h
  split at h
  · split at h
    · cases h
    · cases h; rfl
  · split at h
    · cases h
    · cases h; rfl
  · cases h
theorem mstep {t : Tg} {vs : List Nat} {me : ME} {S S1 : Sx} {d x : PyData} (e1 : bindT t (wipeS S vs) d = some S1) (e2 : me S1 = .ok (.d x) S1) : MStep t vs me S d x := ⟨S1, e1, .d x, S1, e2, (bindT_pn e1).trans rfl, rfl⟩
theorem mstepL {t : Tg} {vs : List Nat} {me : ME} {S S1 : Sx} {d : PyData} {xs : List PyData} (e1 : bindT t (wipeS S vs) d = some S1) (e2 : me S1 = .ok (.new xs) S1) : MStep t vs me S d (.list xs) := ⟨S1, e1, .new xs, S1, e2, (bindT_pn e1).trans rfl, rfl⟩
theorem boolsD_map : ∀ bs : List Bool, boolsD (bs.map PyData.bool) = some bs
  | [] => rfl
  | b :: bs => by
    show (boolsD (bs.map PyData.bool)).map (b :: ·) = _
    rw [boolsD_map bs]; rfl
theorem gAll_ok {S : Sx} {bs : List Bool} : gAll S [.new (bs.map PyData.bool)] = some (.d (.bool (bs.all id))) := by
  show ((some (bs.map PyData.bool)).bind boolsD).map _ = _
  rw [Option.bind_some, boolsD_map]; rfl
theorem gAny_ok {S : Sx} {bs : List Bool} : gAny S [.new (bs.map PyData.bool)] = some (.d (.bool (bs.any id))) := by
  show ((some (bs.map PyData.bool)).bind boolsD).map _ = _
  rw [Option.bind_some, boolsD_map]; rfl
section
variable {t : Tg} {vs : List Nat} {mi : MI} {me : ME} {S S1 : Sx} {ds : List PyData} {p : PyData → Bool}
theorem all_comp (e : mi S = .ok ds S1) (no : noOwn S1 vs = true) (len : ds.length ≤ 16777215) (h : ∀ d ∈ ds, MStep t vs me S1 d (.bool (p d))) :
    mFn gAll (mCons (mComp t vs mi mYes me) mNil) S = .ok (.d (.bool (ds.all p))) S1 := by
  have c := comp_map (f := fun d => .bool (p d)) e no len h
  simp only [kSE, c]
  have : ds.map (fun d => PyData.bool (p d)) = (ds.map p).map PyData.bool := by rw [List.map_map]; rfl
  rw [this, gAll_ok]
  simp only [kSE, List.all_map]
  rfl
theorem any_comp (e : mi S = .ok ds S1) (no : noOwn S1 vs = true) (len : ds.length ≤ 16777215) (h : ∀ d ∈ ds, MStep t vs me S1 d (.bool (p d))) :
    mFn gAny (mCons (mComp t vs mi mYes me) mNil) S = .ok (.d (.bool (ds.any p))) S1 := by
  have c := comp_map (f := fun d => .bool (p d)) e no len h
  simp only [kSE, c]
  have : ds.map (fun d => PyData.bool (p d)) = (ds.map p).map PyData.bool := by rw [List.map_map]; rfl
  rw [this, gAny_ok]
  simp only [kSE, List.any_map]
  rfl
end
theorem gAll_map {S : Sx} {ds : List PyData} {p : PyData → Bool} : gAll S [.new (ds.map fun d => PyData.bool (p d))] = some (.d (.bool (ds.all p))) := by
  have : ds.map (fun d => PyData.bool (p d)) = (ds.map p).map PyData.bool := by rw [List.map_map]; rfl
  rw [this, gAll_ok, List.all_map]
  rfl
theorem gAny_map {S : Sx} {ds : List PyData} {p : PyData → Bool} : gAny S [.new (ds.map fun d => PyData.bool (p d))] = some (.d (.bool (ds.any p))) := by
  have : ds.map (fun d => PyData.bool (p d)) = (ds.map p).map PyData.bool := by rw [List.map_map]; rfl
  rw [this, gAny_ok, List.any_map]
  rfl
theorem atI_zero {α : Type} {x : α} {xs : List α} : atI (x :: xs) 0 = some x := by
  have := atI_nat (xs := x :: xs) (k := 0) (by simp)
  exact this
theorem gLen_str {S : Sx} {s : Str} (h : s.length ≤ 16777216) : gLen S [.d (.str s)] = some (.d (.int s.length)) := by
  show (if s.length ≤ 16777216 then some (W.d (.int s.length)) else none) = _
  rw [if_pos h]
def isSign (c : Nat) : Bool := c == 120 || c == 46
theorem gIn_sign {S : Sx} {c : Nat} : gIn false S (.d (.str ⟨#[c]⟩)) (.d (.tuple [.str "x", .str "."])) = some (.d (.bool (isSign c))) := by
  have e : gIn false S (.d (.str ⟨#[c]⟩)) (.d (.tuple [.str "x", .str "."])) = some (.d (.bool (inV (.str ⟨#[c]⟩) [.str "x", .str "."]))) := rfl
  rw [e, tick_eq, blank_eq]
  congr 3
  unfold inV isSign
  have q : ∀ k : Nat, eqV (.str ⟨#[k]⟩) (.str ⟨#[c]⟩) = (c == k) := fun k => by
    show ((⟨#[k]⟩ : Str) == ⟨#[c]⟩) = (c == k)
    by_cases h : c = k
    · subst h
      rw [beq_self_eq_true, beq_self_eq_true]
    · rw [beq_eq_false_iff_ne.2 h, beq_eq_false_iff_ne.2]
      intro e
      injection e with e
      injection e with e
      injection e with e
      exact h e.symm
  simp only [List.any_cons, List.any_nil, Bool.or_false, q]
def signOf : PyData → Nat
  | .str x => x.cps.getD 0 0
  | _ => 0
theorem signs_all {x : Str} : (signsD x).all (fun d => isSign (signOf d)) = x.cps.toList.all isSign := by
  unfold signsD
  rw [List.all_map]
  rfl
theorem signs_len {x : Str} : (signsD x).length = x.length := by unfold signsD; rw [List.length_map, Array.length_toList]; rfl
theorem mem_signs {x : Str} {d : PyData} (h : d ∈ signsD x) : ∃ c, d = .str ⟨#[c]⟩ := by
  obtain ⟨c, _, rfl⟩ := List.mem_map.1 h
  exact ⟨c, rfl⟩
theorem gEq_int {S : Sx} {i j : Int} : gEq S (.d (.int i)) (.d (.int j)) = some (.d (.bool (decide (i = j)))) := by
  have : eqD (.int i) (.int j) = some (decide (V.int i = V.int j)) := rfl
  rw [gEq_of (x := .int i) (y := .int j) rfl rfl this]
  congr 3
  simp
theorem gNe_int {S : Sx} {i j : Int} : gNe S (.d (.int i)) (.d (.int j)) = some (.d (.bool (!decide (i = j)))) := by
  have : eqD (.int i) (.int j) = some (decide (V.int i = V.int j)) := rfl
  rw [gNe_of (x := .int i) (y := .int j) rfl rfl this]
  congr 3
  simp
/-- rows and tables among data -/
def isRowS (s : Str) : Bool := decide (1 ≤ s.length) && decide (s.length ≤ 8) && s.cps.toList.all isSign
def isRowD : PyData → Bool
  | .str s => isRowS s
  | _ => false
def sLen : PyData → Nat
  | .str s => s.length
  | _ => 0
def isTabD : PyData → Bool
  | .tuple (d :: ds) => decide (ds.length ≤ 7) && (d :: ds).all isRowD && (d :: ds).all fun x => sLen x == sLen d
  | _ => false
/-- texts that can be measured -/
def Sml (d : PyData) : Prop := ∀ ds, d = .tuple ds → ∀ s, PyData.str s ∈ ds → s.length ≤ 16777216
theorem gEq_str {S : Sx} {a b : Str} : gEq S (.d (.str a)) (.d (.str b)) = some (.d (.bool (decide (a = b)))) := by
  have : eqD (.str a) (.str b) = some (decide (V.str a = V.str b)) := rfl
  rw [gEq_of (x := .str a) (y := .str b) rfl rfl this]
  congr 3
  simp
theorem gNe_str {S : Sx} {a b : Str} : gNe S (.d (.str a)) (.d (.str b)) = some (.d (.bool (!decide (a = b)))) := by
  have : eqD (.str a) (.str b) = some (decide (V.str a = V.str b)) := rfl
  rw [gNe_of (x := .str a) (y := .str b) rfl rfl this]
  congr 3
  simp
theorem gEq_tick {S : Sx} {b : Bool} : gEq S (.d (.str ⟨#[sgc b]⟩)) (.d (.str "x")) = some (.d (.bool b)) := by
  rw [gEq_str, tick_eq]
  cases b <;> rfl
/-- numbers as data -/
abbrev intsN (cs : List Nat) : List PyData := cs.map fun c => PyData.int ((c : Nat) : Int)
theorem mem_intsN {cs : List Nat} {d : PyData} (h : d ∈ intsN cs) : ∃ c ∈ cs, d = .int ((c : Nat) : Int) := by
  obtain ⟨c, hc, rfl⟩ := List.mem_map.1 h
  exact ⟨c, hc, rfl⟩
def natD : PyData → Nat
  | .int i => i.toNat
  | _ => 0
theorem natD_int (c : Nat) : natD (.int (c : Int)) = c := rfl
theorem filter_ints (p : Nat → Bool) : ∀ cs : List Nat, (intsN cs).filterMap (fun d => if p (natD d) then some d else none) = intsN (cs.filter p)
  | [] => rfl
  | c :: cs => by
    show List.filterMap _ (PyData.int (c : Int) :: intsN cs) = _
    rw [List.filterMap_cons, natD_int, List.filter_cons]
    cases p c with
    | true =>
      rw [if_pos rfl, if_pos rfl]
      show _ :: _ = _ :: _
      rw [filter_ints p cs]
    | false =>
      rw [if_neg (by decide), if_neg (by decide)]
      exact filter_ints p cs
theorem rng_intsN (n : Nat) : rngD 0 n = intsN (List.range n) := by
  unfold rngD intsN
  refine List.map_congr_left fun k _ => ?_
  rw [Int.zero_add]
theorem ita_ok {rho : List (Option Cell)} {π : Option Pen} {i : Nat} {dr : PyData} {xs : List PyData} (hv : rho[i]? = some (some (.w (.d dr)))) (h : dr = .tuple xs ∨ dr = .list xs) : mItA (mVar i) ⟨rho, π⟩ = .ok xs ⟨rho, π⟩ := by
  have e : vget ⟨rho, π⟩ i = some (.d dr) := by
    show cw i rho[i]? = _
    rw [hv]; rfl
  show RE.bind (RE.of (vget ⟨rho, π⟩ i) ⟨rho, π⟩) _ = _
  rw [e]
  rcases h with rfl | rfl <;> rfl
theorem gIxT_row0 {S : Sx} {t : List (List Bool)} (h : 0 < t.length) : gIxT S (.d (tabD t)) (.d (.int 0)) = some (.d (.str (rowS (t.getD 0 [])))) := gIxT_row (k := 0) h
/-- the columns of a table, each as a tuple of signs -/
def colsD (t : List (List Bool)) (m : Nat) : List PyData := (List.range m).map fun c => .tuple (t.map fun r => .str ⟨#[sgc (r.getD c false)]⟩)
theorem zip_tab {t : List (List Bool)} {m : Nat} (T : Tbl t m) {rho : List (Option Cell)} {π : Option Pen} {i : Nat} (hv : rho[i]? = some (some (.w (.d (tabD t))))) : mItZ (mVar i) ⟨rho, π⟩ = .ok (colsD t m) ⟨rho, π⟩ := by
  have e : vget ⟨rho, π⟩ i = some (.d (tabD t)) := by
    show cw i rho[i]? = _
    rw [hv]; rfl
  have e2 : ((strsD (t.map fun r => PyData.str (rowS r))).bind zipD) = some (colsD t m) := by
    rw [strsD_map, Option.bind_some]
    obtain ⟨r1, r8, m1, m8, row⟩ := T
    cases t with
    | nil => simp at r1
    | cons x t =>
      have lx : (rowS x).cps.size = m := (rowS_len x).trans (row x (List.mem_cons_self ..))
      rw [List.map_cons, zipD, if_pos ⟨by rw [List.length_map]; rw [List.length_cons] at r8; omega, fun y hy => by
        obtain ⟨r, hr, rfl⟩ := List.mem_map.1 hy
        rw [lx]
        exact (rowS_len r).trans (row r (List.mem_cons_of_mem _ hr))⟩, lx]
      congr 1
      unfold colsD
      refine List.map_congr_left fun c hc => ?_
      have hcm := List.mem_range.1 hc
      congr 1
      rw [← List.map_cons (f := rowS), List.map_map]
      refine List.map_congr_left fun r hr => ?_
      show PyData.str ⟨#[(r.map sgc).toArray.getD c 0]⟩ = _
      congr 3
      have hl : c < r.length := by rw [row r hr]; exact hcm
      rw [List.getD_eq_getElem?_getD, List.getElem?_eq_getElem hl, Option.getD_some]
      simp [Array.getD_eq_getD_getElem?, hl]
  show RE.bind (RE.of (vget ⟨rho, π⟩ i) ⟨rho, π⟩) _ = _
  rw [e]
  show RE.of ((strsD (t.map fun r => PyData.str (rowS r))).bind zipD) ⟨rho, π⟩ = _
  rw [e2]
  rfl
theorem gTuple_new {S : Sx} {ds : List PyData} : gTuple S [.new ds] = some (.d (.tuple ds)) := rfl
theorem cstep_t {t : Tg} {vs : List Nat} {mt : MT} {me : ME} {S S1 : Sx} {d x : PyData} {r : Option PyData} (e1 : bindT t (wipeS S vs) d = some S1) (e2 : mt S1 = .ok true S1) (e3 : me S1 = .ok (.d x) S1) (e : r = some x) : CStep t vs mt me S d r :=
  ⟨S1, e1, .inl ⟨S1, .d x, S1, x, e2, e3, (bindT_pn e1).trans rfl, rfl, e⟩⟩
theorem cstep_f {t : Tg} {vs : List Nat} {mt : MT} {me : ME} {S S1 : Sx} {d : PyData} {r : Option PyData} (e1 : bindT t (wipeS S vs) d = some S1) (e2 : mt S1 = .ok false S1) (e : r = none) : CStep t vs mt me S d r :=
  ⟨S1, e1, .inr ⟨S1, e2, (bindT_pn e1).trans rfl, e⟩⟩
theorem tupR_ok {me : ME} {S S1 : Sx} {n : Nat} (e : me S = .ok (.d (.int (n : Int))) S1) (h : n ≤ 16777216) : mTupR me S = .ok (.d (.tuple (rngD 0 n))) S1 := by
  unfold mTupR
  rw [e]
  show (match wi (.d (.int (n : Int))) with
    | some n => if 0 ≤ n ∧ n ≤ 16777216 then RE.ok (W.d (.tuple (rngD 0 n.toNat))) S1 else .bad
    | none => .bad) = _
  show (if 0 ≤ (n : Int) ∧ (n : Int) ≤ 16777216 then RE.ok (W.d (.tuple (rngD 0 (n : Int).toNat))) S1 else .bad) = _
  rw [if_pos (by omega), Int.toNat_natCast]
theorem lstR_ok {me : ME} {S S1 : Sx} {n : Nat} (e : me S = .ok (.d (.int (n : Int))) S1) (h : n ≤ 16777216) : mLstR me S = .ok (.new (rngD 0 n)) S1 := by
  unfold mLstR
  rw [e]
  show (if 0 ≤ (n : Int) ∧ (n : Int) ≤ 16777216 then RE.ok (W.new (rngD 0 (n : Int).toNat)) S1 else .bad) = _
  rw [if_pos (by omega), Int.toNat_natCast]
theorem compS2_go {t t1 : Tg} {vs vs1 : List Nat} {mi1 : MI} {me : ME} {S : Sx} {es : PyData → List PyData} {f : PyData → PyData → PyData} {B : Nat} : ∀ (ds acc : List PyData), acc.length + ds.length * B ≤ 16777215 →
    (∀ d ∈ ds, ∃ Sd, bindT t (wipeS S vs) d = some Sd ∧ mi1 Sd = .ok (es d) Sd ∧ noOwn Sd vs1 = true ∧ (es d).length ≤ B ∧ ∀ e ∈ es d, MStep t1 vs1 me Sd e (f d e)) →
    compS2 t t1 vs vs1 mYes mi1 mYes me ds acc S = .ok (acc ++ ds.flatMap fun d => (es d).map (f d)) S
  | [], acc, _, _ => by rw [List.flatMap_nil, List.append_nil]; rfl
  | d :: ds, acc, hl, h => by
    obtain ⟨Sd, e1, e2, e3, e4, e5⟩ := h d (List.mem_cons_self ..)
    rw [List.length_cons, Nat.succ_mul] at hl
    show (match bindT t (wipeS S vs) d with
      | none => RE.bad
      | some S1 => (mi1 S1).bindB fun es S3 => if noOwn S3 vs1 && decide (acc.length + es.length ≤ 16777215) then (compS t1 vs1 mYes me es acc S3).bindB fun acc' S4 => compS2 t t1 vs vs1 mYes mi1 mYes me ds acc' { S with pen := S4.pen } else .bad) = _
    rw [e1]
    show (mi1 Sd).bindB _ = _
    rw [e2]
    show (if (noOwn Sd vs1 && decide (acc.length + (es d).length ≤ 16777215)) = true then _ else RE.bad) = _
    rw [e3, decide_eq_true (show acc.length + (es d).length ≤ 16777215 by omega), if_pos (by decide)]
    have c := compS_go (t := t1) (vs := vs1) (mt := mYes) (me := me) (S := Sd) (g := fun e => some (f d e)) (es d) acc fun e he => by
      obtain ⟨S2, q1, w, S3, q2, q3, q4⟩ := e5 e he
      exact ⟨S2, q1, .inl ⟨S2, w, S3, f d e, rfl, q2, q3, q4, rfl⟩⟩
    rw [c]
    show compS2 t t1 vs vs1 mYes mi1 mYes me ds (acc ++ (es d).filterMap fun e => some (f d e)) { S with pen := Sd.pen } = _
    have ep : Sd.pen = S.pen := (bindT_pn e1).trans rfl
    rw [sx_pen ep, show (es d).filterMap (fun e => some (f d e)) = (es d).map (f d) from congrFun List.filterMap_eq_map' _]
    rw [compS2_go ds _ (by rw [List.length_append, List.length_map]; omega) fun d' hd => h d' (List.mem_cons_of_mem _ hd), List.flatMap_cons, List.append_assoc]
theorem comp2_map {t t1 : Tg} {vs vs1 : List Nat} {mi mi1 : MI} {me : ME} {S S1 : Sx} {ds : List PyData} {es : PyData → List PyData} {f : PyData → PyData → PyData} {B : Nat} (e : mi S = .ok ds S1) (no : noOwn S1 vs = true) (len : ds.length * B ≤ 16777215)
    (h : ∀ d ∈ ds, ∃ Sd, bindT t (wipeS S1 vs) d = some Sd ∧ mi1 Sd = .ok (es d) Sd ∧ noOwn Sd vs1 = true ∧ (es d).length ≤ B ∧ ∀ e ∈ es d, MStep t1 vs1 me Sd e (f d e)) :
    mComp2 t t1 vs vs1 mi mYes mi1 mYes me S = .ok (.new (ds.flatMap fun d => (es d).map (f d))) S1 := by
  unfold mComp2
  rw [e]
  show (if noOwn S1 vs then fin (compS2 t t1 vs vs1 mYes mi1 mYes me ds [] S1) else .bad) = _
  rw [no, if_pos rfl, compS2_go ds [] (by simpa using len) h]
  rfl
theorem flatMap_ext {α β : Type} {f g : α → List β} : ∀ {l : List α}, (∀ a ∈ l, f a = g a) → l.flatMap f = l.flatMap g
  | [], _ => rfl
  | a :: l, h => by rw [List.flatMap_cons, List.flatMap_cons, h a (List.mem_cons_self ..), flatMap_ext fun b hb => h b (List.mem_cons_of_mem _ hb)]
def isIntD : PyData → Bool
  | .int _ => true
  | _ => false
/-- an integer from 0 to m -/
def intTo (m : Int) : PyData → Bool
  | .int i => decide (0 ≤ i) && decide (i ≤ m)
  | _ => false
def areIx (n : Int) : PyData → Bool
  | .tuple ds => ds.all (intTo (n - 1))
  | _ => false
def areLn (n : Int) : PyData → Bool
  | .tuple ds => ds.all (intTo (n - 1)) && !ds.isEmpty && ((dd ((intsD ds).getD [])).length == ds.length)
  | _ => false
theorem intsD_of {n : Int} : ∀ {ds : List PyData}, ds.all (intTo n) = true → ∃ ns, intsD ds = some ns ∧ ns.length = ds.length
  | [], _ => ⟨[], rfl, rfl⟩
  | d :: ds, h => by
    rw [List.all_cons, Bool.and_eq_true] at h
    obtain ⟨ns, e, l⟩ := intsD_of h.2
    cases d with
    | int i => exact ⟨i :: ns, by show (intsD ds).map (i :: ·) = _; rw [e]; rfl, by rw [List.length_cons, List.length_cons, l]⟩
    | _ => cases h.1
theorem intsD_N : ∀ cs : List Nat, intsD (intsN cs) = some (cs.map fun c => ((c : Nat) : Int))
  | [] => rfl
  | c :: cs => by
    show (intsD (intsN cs)).map ((c : Int) :: ·) = _
    rw [intsD_N cs]; rfl
theorem dd_same : ∀ {ns : List Int}, ns.Nodup → dd ns = ns
  | [], _ => rfl
  | n :: ns, h => by
    rw [List.nodup_cons] at h
    show (if n ∈ ns then dd ns else n :: dd ns) = _
    rw [if_neg h.1, dd_same h.2]
theorem gLenSet_ok {S : Sx} {ds : List PyData} {ns : List Int} (h : intsD ds = some ns) (l : ns.length ≤ 4000) : gLenSet S (.d (.tuple ds)) = some (.d (.int (dd ns).length)) := by
  show ((intsD ds).bind fun ns => if ns.length ≤ 4000 then some (W.d (.int ((dd ns).length : Nat))) else none) = _
  rw [h, Option.bind_some, if_pos l]
end Vf

set_option Elab.async false
set_option linter.all false
set_option maxRecDepth 100000
set_option maxHeartbeats 4000000
namespace K01
open PySem PySem.Spec PyProof.Rows L2 Vf
local macro_rules | `(tactic| walk_at "ks") => `(tactic| simp only [kSO, start0, kSM, kSE, kSV, kSP, kSL, kSG, kD, kC, kIt, kCall, kM1, Option.map_some, Option.bind_some, sset_mk, Nat.reduceAdd, Nat.reduceLeDiff, ↓reduceIte, List.map_cons, List.map_nil, List.cons_append, List.nil_append, List.replicate, List.getElem?_cons_zero, List.getElem?_cons_succ, List.set_cons_zero, List.set_cons_succ, List.length_cons, List.length_nil, List.foldr_cons, List.foldr_nil])
theorem row_ok {d : PyData} (h : ∀ s, d = .str s → s.length ≤ 16777216) : F_is_row [.d d] none = .ok (.d (.bool (isRowD d))) none := by
  unfold F_is_row m_is_row
  walk_at "ks"
  cases d with
  | str s =>
    have hs := h s rfl
    simp only [show isT (tyD (.str s)) .str = true from rfl, Bool.not_true]
    walk_at "ks"
    rw [gLen_str hs]
    walk_at "ks"
    by_cases h1 : (1 : Int) ≤ s.length
    · simp only [h1, decide_true]
      walk_at "ks"
      by_cases h2 : (s.length : Int) ≤ 8
      · simp only [h2, decide_true, Bool.not_true]
        walk_at "ks"
        rw [comp_map (S := ⟨[some (.w (.d (.str s))), none], none⟩) (S1 := ⟨[some (.w (.d (.str s))), none], none⟩) (ds := signsD s) (f := fun d => .bool (isSign (signOf d))) (by walk_at "ks") rfl (by rw [signs_len]; omega) (fun d hd => by
          obtain ⟨c, rfl⟩ := mem_signs hd
          refine mstep rfl ?_
          walk_at "ks"
          rw [gIn_sign]
          rfl)]
        walk_at "ks"
        rw [gAll_map, signs_all]
        walk_at "ks"
        show RF.ok _ none = RF.ok (.d (.bool (isRowS s))) none
        unfold isRowS
        rw [decide_eq_true (show 1 ≤ s.length by omega), decide_eq_true (show s.length ≤ 8 by omega)]
        rfl
      · simp only [h2, decide_false, Bool.not_false]
        walk_at "ks"
        show RF.ok _ none = RF.ok (.d (.bool (isRowS s))) none
        unfold isRowS
        rw [decide_eq_false (show ¬ s.length ≤ 8 by omega), Bool.and_false, Bool.false_and]
    · simp only [h1, decide_false]
      walk_at "ks"
      simp only [Bool.not_false]
      walk_at "ks"
      show RF.ok _ none = RF.ok (.d (.bool (isRowS s))) none
      unfold isRowS
      rw [decide_eq_false (show ¬ 1 ≤ s.length by omega), Bool.false_and, Bool.false_and]
  | _ =>
    rw [show isT (tyD _) Ty.str = false from rfl]
    simp only [Bool.not_false]
    walk_at "ks"
    rfl
/-- no text is too long -/
def Fine : PyData → Prop
  | .tuple ds => ds.length ≤ 1000 ∧ ∀ s, PyData.str s ∈ ds → s.length ≤ 1000
  | _ => True
theorem table_ok {d : PyData} (h : Fine d) : F_is_table [.d d] none = .ok (.d (.bool (isTabD d))) none := by
  unfold F_is_table m_is_table
  walk_at "ks"
  cases d with
  | tuple ds =>
    obtain ⟨hl, hs⟩ := h
    simp only [show isT (tyD (.tuple ds)) .tup = true from rfl, Bool.not_true]
    walk_at "ks"
    by_cases h1 : (1 : Int) ≤ ds.length
    · simp only [h1, decide_true]
      walk_at "ks"
      by_cases h2 : (ds.length : Int) ≤ 8
      · simp only [h2, decide_true, Bool.not_true]
        walk_at "ks"
        rw [comp_map (S := ⟨[some (.w (.d (.tuple ds))), none], none⟩) (S1 := ⟨[some (.w (.d (.tuple ds))), none], none⟩) (ds := ds) (f := fun d => .bool (isRowD d)) (by walk_at "ks") rfl (by omega) (fun d hd => by
          refine mstep rfl ?_
          walk_at "ks"
          exact call_none (n := 1) (ws := [.d d]) (as := [.d d]) rfl rfl rfl (row_ok fun s e => by subst e; have := hs s hd; omega))]
        walk_at "ks"
        rw [gAll_map]
        walk_at "ks"
        cases ds with
        | nil => simp at h1
        | cons x ds =>
          cases ha : (x :: ds).all isRowD with
          | true =>
            simp only [Bool.not_true]
            walk_at "ks"
            have hx : ∀ y ∈ x :: ds, ∃ s, y = .str s ∧ s.length ≤ 1000 := fun y hy => by
              have := List.all_eq_true.1 ha y hy
              cases y with
              | str s => exact ⟨s, rfl, hs s hy⟩
              | _ => cases this
            have gl : ∀ y ∈ x :: ds, ∀ S, gLen S [.d y] = some (.d (.int (sLen y))) := fun y hy S => by
              obtain ⟨s, rfl, q⟩ := hx y hy
              exact gLen_str (by omega)
            rw [comp_map (S := ⟨[some (.w (.d (.tuple (x :: ds)))), none], none⟩) (S1 := ⟨[some (.w (.d (.tuple (x :: ds)))), none], none⟩) (ds := x :: ds) (f := fun d => .bool (sLen d == sLen x)) (by walk_at "ks") rfl (by omega) (fun d hd => by
              refine mstep rfl ?_
              walk_at "ks"
              rw [gl d hd]
              walk_at "ks"
              rw [atI_zero]
              walk_at "ks"
              rw [gl x (List.mem_cons_self ..)]
              walk_at "ks"
              rw [gEq_int]
              walk_at "ks"
              congr 3
              by_cases q : sLen d = sLen x
              · rw [q]; simp
              · rw [decide_eq_false (by omega), beq_eq_false_iff_ne.2 q])]
            simp only [kSE]
            rw [gAll_map]
            walk_at "ks"
            show RF.ok _ none = RF.ok (.d (.bool (decide (ds.length ≤ 7) && (x :: ds).all isRowD && (x :: ds).all fun y => sLen y == sLen x))) none
            have : ds.length ≤ 7 := by rw [List.length_cons] at h2; omega
            rw [ha, decide_eq_true this, Bool.true_and, Bool.true_and]
          | false =>
            simp only [Bool.not_false]
            walk_at "ks"
            show RF.ok _ none = RF.ok (.d (.bool (decide (ds.length ≤ 7) && (x :: ds).all isRowD && (x :: ds).all fun y => sLen y == sLen x))) none
            rw [ha, Bool.and_false, Bool.false_and]
      · simp only [h2, decide_false, Bool.not_false]
        walk_at "ks"
        cases ds with
        | nil => rfl
        | cons x ds =>
          show RF.ok _ none = RF.ok (.d (.bool (decide (ds.length ≤ 7) && (x :: ds).all isRowD && (x :: ds).all fun y => sLen y == sLen x))) none
          rw [decide_eq_false (show ¬ ds.length ≤ 7 by rw [List.length_cons] at h2; omega), Bool.false_and, Bool.false_and]
    · simp only [h1, decide_false]
      walk_at "ks"
      simp only [Bool.not_false]
      walk_at "ks"
      cases ds with
      | nil => rfl
      | cons x ds => rw [List.length_cons] at h1; omega
  | _ =>
    rw [show isT (tyD _) Ty.tup = false from rfl]
    simp only [Bool.not_false]
    walk_at "ks"
    rfl
theorem check_ok {d : PyData} (h : Fine d) : F_check_table [.d d] none = if isTabD d then .ok (.d .none) none else .ex 2 none none := by
  unfold F_check_table m_check_table
  walk_at "ks"
  rw [call_none (n := 1) (ws := [.d d]) (as := [.d d]) rfl rfl rfl (table_ok h)]
  walk_at "ks"
  cases isTabD d with
  | true =>
    simp only [Bool.not_true]
    walk_at "ks"
  | false =>
    simp only [Bool.not_false]
    walk_at "ks"
    rfl
/-- a table's rows are bools -/
theorem isTab_iff (t : List (List Bool)) (m : Nat) (T : Tbl t m) : isTabD (tabD t) = true := by
  obtain ⟨r1, r8, m1, m8, row⟩ := T
  have hr : ∀ r ∈ t, isRowD (.str (rowS r)) = true := fun r hr => by
    show isRowS (rowS r) = true
    unfold isRowS
    rw [rowS_len, row r hr, decide_eq_true m1, decide_eq_true m8, Bool.true_and, Bool.true_and]
    show (r.map sgc).all isSign = true
    rw [List.all_map]
    exact List.all_eq_true.2 fun b _ => by cases b <;> rfl
  cases t with
  | nil => simp at r1
  | cons x t =>
    show (decide ((t.map fun r => PyData.str (rowS r)).length ≤ 7) && ((x :: t).map fun r => PyData.str (rowS r)).all isRowD && ((x :: t).map fun r => PyData.str (rowS r)).all fun y => sLen y == sLen (.str (rowS x))) = true
    rw [decide_eq_true (by rw [List.length_map]; rw [List.length_cons] at r8; omega), Bool.true_and, Bool.and_eq_true]
    refine ⟨?_, ?_⟩
    · rw [List.all_map]
      exact List.all_eq_true.2 hr
    · rw [List.all_map]
      refine List.all_eq_true.2 fun r hr => ?_
      show ((rowS r).length == (rowS x).length) = true
      rw [rowS_len, rowS_len, row r hr, row x (List.mem_cons_self ..), beq_self_eq_true]
theorem fine_tab {t : List (List Bool)} {m : Nat} (T : Tbl t m) : Fine (tabD t) := by
  refine ⟨by rw [List.length_map]; have := T.r8; omega, fun s hs => ?_⟩
  obtain ⟨r, hr, e⟩ := List.mem_map.1 hs
  cases e
  rw [rowS_len, T.row r hr]
  have := T.m8
  omega
theorem check_tab {t : List (List Bool)} {m : Nat} (T : Tbl t m) : F_check_table [.d (tabD t)] none = .ok (.d .none) none := by
  rw [check_ok (fine_tab T), isTab_iff t m T]; rfl
end K01

set_option Elab.async false
set_option linter.all false
set_option maxRecDepth 100000
set_option maxHeartbeats 1000000
/-! Vm4: lists that change. -/
namespace Vf
open PySem PySem.Spec PyProof.Rows L2

theorem lview_own (S : Sx) (i : Nat) : lview S (.own i) = olist S i := rfl
theorem gLen_own {S : Sx} {i : Nat} {ds : List PyData} (h : olist S i = some ds) : gLen S [.own i] = some (.d (.int ds.length)) := gLen_l (by show lview S (.own i) = some ds; rw [lview_own, h]) rfl
theorem dview_own {S : Sx} {i : Nat} {ds : List PyData} (h : olist S i = some ds) : dview S (.own i) = some (.list ds) := by
  unfold olist at h
  show (match S.rho[i]? with
    | some (some (.lst ds)) => some (PyData.list ds)
    | _ => none) = _
  split at h
  · rename_i e; cases h; first | rw [e] | rfl
  · cases h
theorem shaped_flat {ds : List PyData} (h : ∀ d ∈ ds, d.canLay0 = true ∧ d.depth = 0) : SeqAt.shaped (.list ds) = true ∧ SeqAt.shaped (.tuple ds) = true := by
  have c : PyData.canLayAll0 ds = true := by
    induction ds with
    | nil => rfl
    | cons d ds ih => simp only [PyData.canLayAll0, (h d (List.mem_cons_self ..)).1, ih fun x hx => h x (List.mem_cons_of_mem _ hx), Bool.and_self]
  have dp := depth_flat (xs := ds) fun x hx => (h x hx).2
  unfold SeqAt.shaped
  rw [dp.1, dp.2]
  simp only [PyData.canLay0, c]
  exact ⟨rfl, rfl⟩
theorem shaped_intsN (cs : List Nat) : SeqAt.shaped (.list (intsN cs)) = true := (shaped_flat fun d hd => by obtain ⟨c, _, rfl⟩ := mem_intsN hd; exact ⟨rfl, rfl⟩).1
theorem gNe_ownN {S : Sx} {i : Nat} {cs : List Nat} (h : olist S i = some (intsN cs)) : gNe S (.own i) (.new []) = some (.d (.bool (!cs.isEmpty))) := by
  rw [gNe_of (x := .list (intsN cs)) (y := .list []) (dview_own h) rfl (eqD_seq rfl (shaped_intsN cs) (by decide))]
  cases cs <;> rfl
theorem app_ok {i : Nat} {me : ME} {S S1 : Sx} {ds ds1 : List PyData} {w : W} {x : PyData} (h : olist S i = some ds) (e : me S = .ok w S1) (h1 : olist S1 i = some ds1) (ew : argD w = some x) (hl : ds1.length < 16777216) : mAppend i me S = .nx (sset S1 i (.lst (ds1 ++ [x]))) := by
  unfold mAppend
  rw [h]
  show RE.go (me S) _ = _
  rw [e]
  show mApp1 i w S1 = _
  unfold mApp1
  rw [h1, ew]
  show (if ds1.length < 16777216 then _ else _) = _
  rw [if_pos hl]
theorem pop1_ok {i : Nat} {S1 : Sx} {ds1 : List PyData} {j : Nat} {d : PyData} (h1 : olist S1 i = some ds1) (hj : ds1[j]? = some d) (hl : ds1.length < 2 ^ 60) : mPop1 i (.d (.int (j : Int))) S1 = .ok (.d d) (sset S1 i (.lst (ds1.eraseIdx j))) := by
  obtain ⟨lt, _⟩ := List.getElem?_eq_some_iff.1 hj
  unfold mPop1
  rw [h1]
  rw [show wi (.d (.int (j : Int))) = some (j : Int) from rfl]
  dsimp only
  have : ixN ds1.length (j : Int) = some j := by
    unfold ixN
    rw [if_pos (by omega), if_pos (by omega), Int.toNat_natCast]
  rw [if_pos (by omega), this]
  dsimp only
  rw [hj]
theorem pop_ok {i : Nat} {me : ME} {S S1 : Sx} {ds ds1 : List PyData} {j : Nat} {d : PyData} (h : olist S i = some ds) (e : me S = .ok (.d (.int (j : Int))) S1) (h1 : olist S1 i = some ds1) (hj : ds1[j]? = some d) (hl : ds1.length < 2 ^ 60) : mPop i me S = .ok (.d d) (sset S1 i (.lst (ds1.eraseIdx j))) := by
  unfold mPop
  rw [h]
  show RE.bind (me S) _ = _
  rw [e]
  exact pop1_ok h1 hj hl
theorem while_inv {mt : MT} {body : MS} (I : Nat → Sx → Prop) (stop : ∀ S, I 0 S → mt S = .ok false S) (step : ∀ k S, I (k + 1) S → mt S = .ok true S ∧ ∃ S2, body S = .nx S2 ∧ I k S2) : ∀ (k n : Nat) (S : Sx), k < n → I k S → ∃ S', whileS mt body n S = .nx S' ∧ I 0 S'
  | 0, n + 1, S, _, h => by
    refine ⟨S, ?_, h⟩
    show RE.go (mt S) _ = _
    rw [stop S h]
    rfl
  | k + 1, n + 1, S, hk, h => by
    obtain ⟨e1, S2, e2, h2⟩ := step k S h
    obtain ⟨S', e3, h3⟩ := while_inv I stop step k n S2 (by omega) h2
    refine ⟨S', ?_, h3⟩
    show RE.go (mt S) _ = _
    rw [e1]
    show (match body S with
      | .nx S2 => whileS mt body n S2
      | .ct S2 => whileS mt body n S2
      | .bk S2 => .nx S2
      | r => r) = _
    rw [e2]
    exact e3
theorem perm_erase {α : Type} : ∀ {xs : List α} {j : Nat} (h : j < xs.length), (xs[j] :: xs.eraseIdx j).Perm xs
  | x :: xs, 0, _ => List.Perm.refl _
  | x :: xs, j + 1, h => by
    have lt : j < xs.length := by rw [List.length_cons] at h; omega
    show (xs[j] :: x :: xs.eraseIdx j).Perm (x :: xs)
    exact (List.Perm.swap x xs[j] (xs.eraseIdx j)).trans ((perm_erase lt).cons x)
theorem erase_map {α β : Type} (f : α → β) : ∀ (xs : List α) (j : Nat), (xs.map f).eraseIdx j = (xs.eraseIdx j).map f
  | [], _ => rfl
  | x :: xs, 0 => rfl
  | x :: xs, j + 1 => by
    show f x :: (xs.map f).eraseIdx j = _
    rw [erase_map f xs j]
    rfl
theorem perm_pop {α : Type} {found rest items : List α} {j : Nat} {x : α} (h : (found ++ rest).Perm items) (hj : rest[j]? = some x) : ((found ++ [x]) ++ rest.eraseIdx j).Perm items := by
  obtain ⟨lt, e⟩ := List.getElem?_eq_some_iff.1 hj
  refine List.Perm.trans ?_ h
  rw [List.append_assoc]
  refine List.Perm.append_left _ ?_
  rw [← e]
  exact perm_erase lt
def putC (o : Bool) (i : Nat) (w : W) (S : Sx) : Option Sx := match o with
  | true => (match w with
    | .new ds => some (sset S i (.lst ds))
    | _ => none)
  | false => (cellOf w).map (sset S i)
def parK (o : Option Sx) : RS := match o with
  | some S => .nx S
  | none => .bad
theorem kPar :
    (∀ (oi oj : Bool) (i j : Nat) (ma mb : ME) (S : Sx), mPar oi oj i j ma mb S = RE.go (ma S) fun w1 S1 => RE.go (mb S1) fun w2 S2 => parK ((putW oi i w1 S2).bind (putW oj j w2))) ∧
    (∀ (o : Bool) (i : Nat) (w : W) (S : Sx), putW o i w S = if S.rho.length ≤ i then none else putC o i w S) ∧ (∀ (i : Nat) (ds : List PyData) (S : Sx), putC true i (.new ds) S = some (sset S i (.lst ds))) ∧ (∀ (i : Nat) (w : W) (S : Sx), putC false i w S = (cellOf w).map (sset S i)) ∧
    (∀ S : Sx, parK (some S) = .nx S) ∧ (∀ (S : Sx) (ds : List PyData), gList S [.d (.list ds)] = some (.new ds)) ∧ (∀ (S : Sx) (ds : List PyData), gList S [.d (.tuple ds)] = some (.new ds)) :=
  ⟨fun _ _ _ _ _ _ _ => rfl, fun _ _ _ _ => rfl, fun _ _ _ => rfl, fun _ _ _ => rfl, fun _ => rfl, fun _ _ => rfl, fun _ _ => rfl⟩
theorem kSto (i : Nat) (me : ME) (S : Sx) : mSto false i me S = mSet i me S := Eq.trans (Eq.refl _) (Eq.refl _)
theorem kStoT (i : Nat) (me : ME) (S : Sx) : mSto true i me S = mSetO i me S := Eq.trans (Eq.refl _) (Eq.refl _)
def tsetK (t : Tg) (w : W) (S1 : Sx) : RS := match w with
  | .d d => (match bindT t S1 d with
    | some S2 => .nx S2
    | none => .bad)
  | _ => .bad
theorem kTS :
    (∀ (t : Tg) (me : ME) (S : Sx), mTSet t me S = RE.go (me S) (tsetK t)) ∧
    (∀ (i j : Nat) (a b : PyData) (S : Sx), tsetK (.two i j) (.d (.tuple [a, b])) S = if S.rho.length ≤ i ∨ S.rho.length ≤ j then .bad else .nx (sset (sset S i (.w (.d a))) j (.w (.d b)))) := by
  refine ⟨fun _ _ _ => rfl, fun i j a b S => ?_⟩
  show (match (if S.rho.length ≤ i ∨ S.rho.length ≤ j then none else some (sset (sset S i (.w (.d a))) j (.w (.d b)))) with
    | some S2 => RS.nx S2
    | none => .bad) = _
  by_cases hc : S.rho.length ≤ i ∨ S.rho.length ≤ j
  · rw [if_pos hc, if_pos hc]
  · rw [if_neg hc, if_neg hc]
theorem kPar3 :
    (∀ (i j l : Nat) (ma mb mc : ME) (S : Sx), mPar3 i j l ma mb mc S = RE.go (ma S) fun w1 S1 => RE.go (mb S1) fun w2 S2 => RE.go (mc S2) fun w3 S3 => parK (((putP i w1 S3).bind (putP j w2)).bind (putP l w3))) ∧
    (∀ (i : Nat) (w : W) (S : Sx), putP i w S = if S.rho.length ≤ i then none else (cellOf w).map (sset S i)) := ⟨fun _ _ _ _ _ _ _ => rfl, fun _ _ _ => rfl⟩
/-! ### cuts, sums of texts and tuples -/
def partK (w : W) (S1 : Sx) : RE (Option Int) := match wi w with
  | some i => .ok (some i) S1
  | none => .bad
theorem kSl :
    (∀ (g : Sx → W → Option Int → Option Int → Option W) (me : ME) (ml mh : MO) (S : Sx), mSl g me ml mh S = RE.bind (me S) fun w S1 => RE.bind (ml S1) fun lo S2 => RE.bind (mh S2) fun hi S3 => RE.of (g S3 w lo hi) S3) ∧
    (∀ (S : Sx), mNoPart S = .ok none S) ∧ (∀ (me : ME) (S : Sx), mPart me S = RE.bind (me S) partK) ∧ (∀ (i : Int) (S : Sx), partK (.d (.int i)) S = .ok (some i) S) ∧
    (∀ (S : Sx) (ds : List PyData) (lo hi : Option Int), gSlT S (.d (.tuple ds)) lo hi = some (.d (.tuple (cutD ds lo hi)))) ∧ (∀ (S : Sx) (ds : List PyData) (lo hi : Option Int), gSlL S (.d (.list ds)) lo hi = some (.new (cutD ds lo hi))) :=
  ⟨fun _ _ _ _ _ => rfl, fun _ => rfl, fun _ _ => rfl, fun _ _ => rfl, fun _ _ _ _ => rfl, fun _ _ _ _ => rfl⟩
theorem cutD_to {xs : List PyData} {k : Nat} (h : k ≤ xs.length) : cutD xs none (some (k : Int)) = xs.take k := by
  unfold cutD
  rw [HT.sIx_none, HT.sIx_nat, List.drop_zero, Nat.sub_zero, Nat.min_eq_left h]
theorem cutD_from {xs : List PyData} {k : Nat} (h : k ≤ xs.length) : cutD xs (some (k : Int)) none = xs.drop k := by
  unfold cutD
  rw [HT.sIx_none, HT.sIx_nat, Nat.min_eq_left h]
  rw [List.take_of_length_le (by rw [List.length_drop]; exact Nat.le_refl _)]
theorem cutS_to {z : Str} {k : Nat} (h : k ≤ z.length) : cutS z none (some (k : Int)) = ⟨(z.cps.toList.take k).toArray⟩ := by
  unfold cutS
  rw [HT.sIx_none, HT.sIx_nat, List.drop_zero, Nat.sub_zero, Nat.min_eq_left h]
theorem cutS_from {z : Str} {k : Nat} (h : k ≤ z.length) : cutS z (some (k : Int)) none = ⟨(z.cps.toList.drop k).toArray⟩ := by
  unfold cutS
  rw [HT.sIx_none, HT.sIx_nat, Nat.min_eq_left h]
  rw [List.take_of_length_le (by rw [List.length_drop]; exact Nat.le_refl _)]
theorem gSlS_ok {S : Sx} {z : Str} {lo hi : Option Int} (h : z.length ≤ 16777216) : gSlS S (.d (.str z)) lo hi = some (.d (.str (cutS z lo hi))) := by
  show (if z.length ≤ 16777216 then some (W.d (.str (cutS z lo hi))) else none) = _
  rw [if_pos h]
theorem gCatT_ok {S : Sx} {a b : List PyData} (h : a.length + b.length ≤ 16777216) : gCatT S (.d (.tuple a)) (.d (.tuple b)) = some (.d (.tuple (a ++ b))) := by
  show (if a.length + b.length ≤ 16777216 then some (W.d (.tuple (a ++ b))) else none) = _
  rw [if_pos h]
theorem gCatS_ok {S : Sx} {a b : Str} (h : a.length + b.length ≤ 16777216) : gCatS S (.d (.str a)) (.d (.str b)) = some (.d (.str (a ++ b))) := by
  show (if a.length + b.length ≤ 16777216 then some (W.d (.str (a ++ b))) else none) = _
  rw [if_pos h]
theorem gCatL_ok {S : Sx} {u v : W} {a b : List PyData} (hu : lview S u = some a) (hv : lview S v = some b) (h : a.length + b.length ≤ 16777216) : gCatL S u v = some (.new (a ++ b)) := by
  unfold gCatL
  rw [hu, hv]
  dsimp only
  rw [if_pos h]
theorem str_len (xs : List Nat) : Str.length ⟨xs.toArray⟩ = xs.length := by
  show (xs.toArray).size = _
  simp
theorem str_app (xs ys : List Nat) : (⟨xs.toArray⟩ : Str) ++ ⟨ys.toArray⟩ = ⟨(xs ++ ys).toArray⟩ := by
  show (⟨xs.toArray ++ ys.toArray⟩ : Str) = _
  congr 1
  apply Array.ext'
  simp
theorem str_cps (z : Str) : z = ⟨z.cps.toList.toArray⟩ := by
  obtain ⟨a⟩ := z
  congr 1
/-- a table with another text at a place -/
def withS (r : List Bool) (c : Nat) (z : Str) : Str := ⟨((r.take c).map sgc ++ z.cps.toList ++ (r.drop (c + 1)).map sgc).toArray⟩
def rowsD (t : List (List Bool)) : List PyData := t.map fun r => .str (rowS r)
def withD (t : List (List Bool)) (k : Nat) (d : PyData) : PyData := .tuple (rowsD (t.take k) ++ [d] ++ rowsD (t.drop (k + 1)))
/-- a loop that may return -/
theorem loop_ret {t : Tg} {body : MS} (I : List PyData → Sx → Prop) (R : W → Sx → Prop) (step : ∀ d ds S, I (d :: ds) S → ∃ S1, bindT t S d = some S1 ∧ ((∃ S2, body S1 = .nx S2 ∧ I ds S2) ∨ ∃ w S2, body S1 = .rt w S2 ∧ R w S2)) : ∀ (ds : List PyData) (S : Sx), I ds S → (∃ S', loopS t body ds S = .nx S' ∧ I [] S') ∨ ∃ w S', loopS t body ds S = .rt w S' ∧ R w S'
  | [], S, h => .inl ⟨S, rfl, h⟩
  | d :: ds, S, h => by
    obtain ⟨S1, e1, h1⟩ := step d ds S h
    have un : loopS t body (d :: ds) S = (match bindT t S d with
        | none => RS.bad
        | some S' => match body S' with
          | .nx S'' => loopS t body ds S''
          | .ct S'' => loopS t body ds S''
          | .bk S'' => .nx S''
          | r => r) := rfl
    rcases h1 with ⟨S2, e2, h2⟩ | ⟨w, S2, e2, h2⟩
    · have un2 : loopS t body (d :: ds) S = loopS t body ds S2 := by rw [un, e1]; dsimp only; rw [e2]
      rw [un2]
      exact loop_ret I R step ds S2 h2
    · exact .inr ⟨w, S2, by rw [un, e1]; dsimp only; rw [e2], h2⟩
theorem pstep {t : Tg} {vs : List Nat} {me : ME} {rho : List (Option Cell)} {R : PyData → PyData → Prop} {c : Nat} {d : PyData} (h : ∀ (k : Nat) (π : Pen), PenOk (k + c) π → ∃ S1, bindT t (wipeS ⟨rho, some π⟩ vs) d = some S1 ∧ ∃ x π', R d x ∧ PenOk k π' ∧ ∃ rho', me S1 = .ok (.d x) ⟨rho', some π'⟩) : PStep t vs me rho R c d := fun k π hp => by
  obtain ⟨S1, e1, x, π', r, p, rho', e2⟩ := h k π hp
  exact ⟨S1, e1, .d x, rho', π', x, e2, rfl, r, p⟩
theorem xdot_eq : Str.ofString "x." = ⟨#[120, 46]⟩ := by decide +kernel
theorem dotx_eq : Str.ofString ".x" = ⟨#[46, 120]⟩ := by decide +kernel
theorem gIxS_xd {S : Sx} {d : Nat} (h : d < 2) : gIxS S (.d (.str "x.")) (.d (.int (d : Int))) = some (.d (.str ⟨#[sgc (d == 0)]⟩)) := by
  rw [xdot_eq]
  match d, h with
  | 0, _ => rfl
  | 1, _ => rfl
theorem gIxS_dx {S : Sx} {d : Nat} : gIxS S (.d (.str ".x")) (.d (.int (if (d : Int) < 1 then (d : Int) else 1))) = some (.d (.str ⟨#[sgc (!(d == 0))]⟩)) := by
  rw [dotx_eq]
  match d with
  | 0 => rfl
  | d + 1 =>
    rw [if_neg (by omega)]
    rfl
/-- rows drawn sign by sign -/
def IsSg (x : PyData) : Prop := ∃ b : Bool, x = .str ⟨#[sgc b]⟩
theorem signs_rows : ∀ {xs : List PyData}, (∀ x ∈ xs, IsSg x) → ∃ r : List Bool, xs = (r.map sgc).map (fun c => PyData.str ⟨#[c]⟩) ∧ r.length = xs.length
  | [], _ => ⟨[], rfl, rfl⟩
  | x :: xs, h => by
    obtain ⟨b, rfl⟩ := h x (List.mem_cons_self ..)
    obtain ⟨r, e, l⟩ := signs_rows (xs := xs) fun y hy => h y (List.mem_cons_of_mem _ hy)
    exact ⟨b :: r, by rw [e]; rfl, by rw [List.length_cons, List.length_cons, l]⟩
def IsRowN (m : Nat) (x : PyData) : Prop := ∃ r : List Bool, x = .str (rowS r) ∧ r.length = m
theorem rows_tab : ∀ {m : Nat} {xs : List PyData}, (∀ x ∈ xs, IsRowN m x) → ∃ t : List (List Bool), xs = rowsD t ∧ t.length = xs.length ∧ ∀ r ∈ t, r.length = m
  | _, [], _ => ⟨[], rfl, rfl, by simp⟩
  | m, x :: xs, h => by
    obtain ⟨r, rfl, hr⟩ := h x (List.mem_cons_self ..)
    obtain ⟨t, e, l, q⟩ := rows_tab (m := m) (xs := xs) fun y hy => h y (List.mem_cons_of_mem _ hy)
    refine ⟨r :: t, by rw [e]; rfl, by rw [List.length_cons, List.length_cons, l], fun z hz => ?_⟩
    rcases List.mem_cons.1 hz with rfl | hz
    · exact hr
    · exact q z hz
/-- ints drawn in bounds -/
theorem nats_of : ∀ {xs : List PyData}, (∀ x ∈ xs, ∃ c : Nat, x = .int (c : Int)) → ∃ cs : List Nat, xs = intsN cs
  | [], _ => ⟨[], rfl⟩
  | x :: xs, h => by
    obtain ⟨c, rfl⟩ := h x (List.mem_cons_self ..)
    obtain ⟨cs, e⟩ := nats_of (xs := xs) fun y hy => h y (List.mem_cons_of_mem _ hy)
    exact ⟨c :: cs, by rw [e]; rfl⟩
end Vf

set_option Elab.async false
set_option linter.all false
set_option maxRecDepth 100000
set_option maxHeartbeats 1000000
/-! Vm5: what can be shown. -/
namespace Vf
open PySem PySem.Spec PyProof.Rows L2

structure Rok (d : PyData) (dp w : Nat) : Prop where
  sh : d.showable = true
  lv : d.leavesShort 60 = true
  dp : d.depth ≤ dp
  wt : d.weight ≤ w
  hd : d.hasDict = false
theorem Rok.mono {d : PyData} {dp w dp' w' : Nat} (h : Rok d dp w) (h1 : dp ≤ dp') (h2 : w ≤ w') : Rok d dp' w' := ⟨h.sh, h.lv, Nat.le_trans h.dp h1, Nat.le_trans h.wt h2, h.hd⟩
theorem reprOk_of {d : PyData} {dp w : Nat} (h : Rok d dp w) (h1 : dp ≤ 60) (h2 : w ≤ 200000) : reprOk d = true := by
  have l := PyData.shown_le 60 (by decide) d h.lv
  have lw := h.wt
  have ld := h.dp
  unfold reprOk
  rw [h.sh, h.hd, decide_eq_true (show d.depth ≤ 60 by omega), decide_eq_true (show d.shown.length ≤ 16777216 by omega)]
  rfl
theorem rok_all {dp w : Nat} : ∀ {ds : List PyData}, (∀ d ∈ ds, Rok d dp w) → PyData.showableAll ds = true ∧ PyData.leavesShortAll 60 ds = true ∧ PyData.depthAll ds ≤ dp ∧ PyData.weightAll ds ≤ ds.length * (w + 1) ∧ PyData.hasDictAll ds = false
  | [], _ => ⟨rfl, rfl, Nat.zero_le _, Nat.zero_le _, rfl⟩
  | d :: ds, h => by
    obtain ⟨a, b, c, e, f⟩ := rok_all (ds := ds) fun x hx => h x (List.mem_cons_of_mem _ hx)
    have q := h d (List.mem_cons_self ..)
    have q3 := q.dp
    have q4 := q.wt
    refine ⟨?_, ?_, ?_, ?_, ?_⟩
    · simp only [PyData.showableAll, q.sh, a, Bool.and_self]
    · simp only [PyData.leavesShortAll, q.lv, b, Bool.and_self]
    · simp only [PyData.depthAll]; omega
    · simp only [PyData.weightAll, List.length_cons, Nat.succ_mul]; omega
    · simp only [PyData.hasDictAll, q.hd, f, Bool.or_self]
theorem Rok.tup {dp w : Nat} {ds : List PyData} (h : ∀ d ∈ ds, Rok d dp w) : Rok (.tuple ds) (dp + 1) (ds.length * (w + 1)) := by
  obtain ⟨a, b, c, e, f⟩ := rok_all h
  exact ⟨by simpa only [PyData.showable] using a, by simpa only [PyData.leavesShort] using b, by simp only [PyData.depth]; omega, by simpa only [PyData.weight] using e, by simpa only [PyData.hasDict] using f⟩
theorem Rok.lst {dp w : Nat} {ds : List PyData} (h : ∀ d ∈ ds, Rok d dp w) : Rok (.list ds) (dp + 1) (ds.length * (w + 1)) := by
  obtain ⟨a, b, c, e, f⟩ := rok_all h
  exact ⟨by simpa only [PyData.showable] using a, by simpa only [PyData.leavesShort] using b, by simp only [PyData.depth]; omega, by simpa only [PyData.weight] using e, by simpa only [PyData.hasDict] using f⟩
/-- a text of few low signs -/
def SOk (s : Str) (k : Nat) : Prop := s.length ≤ k ∧ ∀ c ∈ s.cps.toList, c < 1000
theorem Rok.str {s : Str} {k : Nat} (h : SOk s k) : Rok (.str s) 0 k := by
  refine ⟨rfl, ?_, Nat.le_refl _, ?_, rfl⟩
  · simp only [PyData.leavesShort]
    exact List.all_eq_true.2 fun c hc => decide_eq_true (Nat.lt_of_lt_of_le (h.2 c hc) (by decide))
  · simp only [PyData.weight]
    exact h.1
theorem Rok.non : Rok .none 0 0 := ⟨rfl, rfl, Nat.le_refl _, Nat.le_refl _, rfl⟩
theorem Rok.bl (b : Bool) : Rok (.bool b) 0 0 := ⟨rfl, rfl, Nat.le_refl _, Nat.le_refl _, rfl⟩
/-- a check of closed data -/
def rokB (d : PyData) (dp w : Nat) : Bool := d.showable && d.leavesShort 60 && decide (d.depth ≤ dp) && decide (d.weight ≤ w) && !d.hasDict
theorem Rok.of {d : PyData} {dp w : Nat} (h : rokB d dp w = true) : Rok d dp w := by
  unfold rokB at h
  simp only [Bool.and_eq_true, decide_eq_true_eq, Bool.not_eq_true'] at h
  obtain ⟨⟨⟨⟨a, b⟩, c⟩, e⟩, f⟩ := h
  exact ⟨a, b, c, e, f⟩
theorem Rok.nat {c : Nat} (h : c ≤ 9) : Rok (.int (c : Int)) 0 10 := by
  match c, h with
  | 0, _ => exact .of (by decide +kernel)
  | 1, _ => exact .of (by decide +kernel)
  | 2, _ => exact .of (by decide +kernel)
  | 3, _ => exact .of (by decide +kernel)
  | 4, _ => exact .of (by decide +kernel)
  | 5, _ => exact .of (by decide +kernel)
  | 6, _ => exact .of (by decide +kernel)
  | 7, _ => exact .of (by decide +kernel)
  | 8, _ => exact .of (by decide +kernel)
  | 9, _ => exact .of (by decide +kernel)
theorem sok_row {r : List Bool} : SOk (rowS r) r.length := by
  refine ⟨by rw [rowS_len]; exact Nat.le_refl _, fun c hc => ?_⟩
  have e : (rowS r).cps.toList = r.map sgc := rfl
  rw [e] at hc
  obtain ⟨b, _, rfl⟩ := List.mem_map.1 hc
  cases b <;> decide
theorem SOk.mono {s : Str} {k k' : Nat} (h : SOk s k) (l : k ≤ k') : SOk s k' := ⟨Nat.le_trans h.1 l, h.2⟩
theorem SOk.app {a b : Str} {k l : Nat} (ha : SOk a k) (hb : SOk b l) : SOk (a ++ b) (k + l) := by
  have e : (a ++ b).cps = a.cps ++ b.cps := rfl
  refine ⟨?_, fun c hc => ?_⟩
  · show (a ++ b).cps.size ≤ _
    rw [e, Array.size_append]
    exact Nat.add_le_add ha.1 hb.1
  · rw [e, Array.toList_append] at hc
    rcases List.mem_append.1 hc with q | q
    · exact ha.2 c q
    · exact hb.2 c q
theorem SOk.of {s : Str} {k : Nat} (h : (decide (s.length ≤ k) && s.cps.toList.all fun c => decide (c < 1000)) = true) : SOk s k := by
  rw [Bool.and_eq_true] at h
  exact ⟨of_decide_eq_true h.1, fun c hc => of_decide_eq_true (List.all_eq_true.1 h.2 c hc)⟩
theorem SOk.list {xs : List Nat} {k : Nat} (hl : xs.length ≤ k) (h : ∀ c ∈ xs, c < 1000) : SOk ⟨xs.toArray⟩ k := ⟨by rw [str_len]; exact hl, h⟩
theorem SOk.join {sep : Str} {k l : Nat} (hs : SOk sep l) : ∀ {ss : List Str}, (∀ s ∈ ss, SOk s k) → SOk (Str.join sep ss) (ss.length * (k + l))
  | [], _ => ⟨Nat.zero_le _, fun c hc => by simp [Str.join, Str.empty] at hc⟩
  | [s], h => (h s (List.mem_cons_self ..)).mono (by rw [List.length_cons, List.length_nil]; omega)
  | s :: s' :: ss, h => by
    have ih := SOk.join hs (ss := s' :: ss) fun x hx => h x (List.mem_cons_of_mem _ hx)
    have := ((h s (List.mem_cons_self ..)).app hs).app ih
    refine SOk.mono (s := Str.join sep (s :: s' :: ss)) this ?_
    rw [List.length_cons, List.length_cons, List.length_cons, Nat.succ_mul (ss.length + 1)]
    omega
theorem rok_tab {t : List (List Bool)} {m : Nat} (T : Tbl t m) : Rok (tabD t) 1 100 := by
  have m8 := T.m8
  have r8 := T.r8
  have := Rok.tup (dp := 0) (w := 8) (ds := t.map fun r => PyData.str (rowS r)) fun d hd => by
    obtain ⟨r, hr, rfl⟩ := List.mem_map.1 hd
    exact Rok.str (sok_row.mono (by rw [T.row r hr]; exact m8))
  exact this.mono (by omega) (by rw [List.length_map]; omega)
theorem gRepr_ok {S : Sx} {w : W} {x : PyData} (h : dview S w = some x) (r : reprOk x = true) : gRepr S [w] = some (.d (.str x.shown)) := by
  show (match dview S w with
    | some x => if reprOk x then some (W.d (.str x.shown)) else none
    | none => none) = _
  rw [h]
  show (if reprOk x = true then _ else _) = _
  rw [r, if_pos rfl]
/-! ### words of errors, items set -/
theorem word_ex {wd : Nat → Option Str} {mb : ME} {S S1 : Sx} {c : Nat} {w : Str} (e : mb S = .ex c none S1) (h : wd c = some w) : mWord wd mb S = .ok (.d (.str w)) S1 := by
  unfold mWord
  rw [e]
  show (match wd c with
    | some w => RE.ok (W.d (.str w)) S1
    | none => .bad) = _
  rw [h]
theorem word_none {wd : Nat → Option Str} {mb : ME} {S S1 : Sx} {w : W} (e : mb S = .ok w S1) : mWord wd mb S = .ok (.d (.str "")) S1 := by
  unfold mWord
  rw [e]
theorem setitem_ok {i : Nat} {me mk : ME} {S S1 S2 : Sx} {ds : List PyData} {w : W} {x : PyData} {k : Nat} (e : me S = .ok w S1) (h1 : olist S1 i = some ds) (ek : mk S1 = .ok (.d (.int (k : Int))) S2) (h2 : olist S2 i = some ds) (ew : argD w = some x) (hk : k < ds.length) : mSetItem i me mk S = .nx (sset S2 i (.lst (ds.set k x))) := by
  unfold mSetItem
  rw [e]
  show (match olist S1 i with
    | none => RS.bad
    | some _ => (mk S1).go fun u S2 => match olist S2 i, wi u, argD w with
      | some ds, some k, some x => (match ixN ds.length k with
        | some j => .nx (sset S2 i (.lst (ds.set j x)))
        | none => .bad)
      | _, _, _ => .bad) = _
  rw [h1]
  show RE.go (mk S1) _ = _
  rw [ek]
  show (match olist S2 i, wi (.d (.int (k : Int))), argD w with
      | some ds, some k, some x => (match ixN ds.length k with
        | some j => RS.nx (sset S2 i (.lst (ds.set j x)))
        | none => .bad)
      | _, _, _ => .bad) = _
  rw [h2, ew]
  show (match ixN ds.length (k : Int) with
        | some j => RS.nx (sset S2 i (.lst (ds.set j x)))
        | none => .bad) = _
  have : ixN ds.length (k : Int) = some k := by
    unfold ixN
    rw [if_pos (by omega), if_pos (by omega), Int.toNat_natCast]
  rw [this]
def orTrK (mb : ME) (w : W) (S1 : Sx) : RE W := match (dview S1 w).bind truD with
  | some true => .ok w S1
  | some false => mb S1
  | none => .bad
theorem kOT :
    (∀ (ma mb : ME) (S : Sx), mOrTr ma mb S = RE.bind (ma S) (orTrK mb)) ∧ (∀ (mb : ME) (x : PyData) (xs : List PyData) (S : Sx), orTrK mb (.d (.tuple (x :: xs))) S = .ok (.d (.tuple (x :: xs))) S) ∧ (∀ (mb : ME) (S : Sx), orTrK mb (.d (.tuple [])) S = mb S) ∧
    (∀ (S : Sx) (x y : Bool), gIsB true S (.d (.bool x)) (.d (.bool y)) = some (.d (.bool (!decide (x = y))))) ∧ (∀ (S : Sx) (x y : Bool), gIsB false S (.d (.bool x)) (.d (.bool y)) = some (.d (.bool (decide (x = y))))) :=
  ⟨fun _ _ _ => rfl, fun _ _ _ _ => rfl, fun _ _ => rfl, fun _ _ _ => rfl, fun _ _ _ => rfl⟩
theorem gTuple_l {S : Sx} {ds : List PyData} : gTuple S [.d (.list ds)] = some (.d (.tuple ds)) := rfl
/-- a loop by what is done -/
theorem loop_pre {t : Tg} {body : MS} (all : List PyData) (I : List PyData → Sx → Prop) (step : ∀ done d rest S, done ++ d :: rest = all → I done S → ∃ S1, bindT t S d = some S1 ∧ ∃ S2, body S1 = .nx S2 ∧ I (done ++ [d]) S2) (S : Sx) (h : I [] S) : ∃ S', loopS t body all S = .nx S' ∧ I all S' := by
  have key : ∀ (rest done : List PyData) (S : Sx), done ++ rest = all → I done S → ∃ S', loopS t body rest S = .nx S' ∧ I all S' := by
    intro rest
    induction rest with
    | nil => exact fun done S e h => ⟨S, rfl, by rw [← e, List.append_nil]; exact h⟩
    | cons d rest ih =>
      intro done S e h
      obtain ⟨S1, e1, S2, e2, h2⟩ := step done d rest S e h
      obtain ⟨S', e3, h3⟩ := ih (done ++ [d]) S2 (by rw [← e]; simp) h2
      refine ⟨S', ?_, h3⟩
      have un : loopS t body (d :: rest) S = (match bindT t S d with
        | none => RS.bad
        | some S' => match body S' with
          | .nx S'' => loopS t body rest S''
          | .ct S'' => loopS t body rest S''
          | .bk S'' => .nx S''
          | r => r) := rfl
      rw [un, e1]
      dsimp only
      rw [e2]
      exact e3
  exact key all [] S rfl h
end Vf

set_option Elab.async false
set_option linter.all false
set_option maxRecDepth 100000
set_option maxHeartbeats 1000000
/-! Vm6: a loop that leaves at the first item of a kind. -/
namespace Vf
open PySem PySem.Spec PyProof.Rows L2
theorem loop_find {t : Tg} {body : MS} {p : PyData → Bool} {I : Sx → Prop} {mk : PyData → Sx → RS} (hmk : ∀ d S, (∃ w, mk d S = .rt w S) ∨ ∃ c l, mk d S = .ex c l S) : ∀ (ds : List PyData) (S : Sx), I S →
    (∀ d ∈ ds, ∀ S, I S → ∃ S1, bindT t S d = some S1 ∧ ((p d = true ∧ ∃ S2, body S1 = mk d S2 ∧ I S2) ∨ (p d = false ∧ ∃ S2, body S1 = .nx S2 ∧ I S2))) →
    (ds.find? p = none ∧ ∃ S2, loopS t body ds S = .nx S2 ∧ I S2) ∨ ∃ d, ds.find? p = some d ∧ ∃ S2, loopS t body ds S = mk d S2 ∧ I S2
  | [], S, h, _ => .inl ⟨rfl, S, rfl, h⟩
  | d :: ds, S, h, st => by
    obtain ⟨S1, e1, q⟩ := st d (List.mem_cons_self ..) S h
    have un : loopS t body (d :: ds) S = (match bindT t S d with
      | none => RS.bad
      | some S' => match body S' with
        | .nx S2 => loopS t body ds S2
        | .ct S2 => loopS t body ds S2
        | .bk S2 => .nx S2
        | r => r) := by rfl
    rw [e1] at un
    dsimp only at un
    rcases q with ⟨hp, S2, e2, h2⟩ | ⟨hp, S2, e2, h2⟩
    · refine .inr ⟨d, by rw [List.find?_cons, hp], S2, ?_, h2⟩
      rw [un, e2]
      rcases hmk d S2 with ⟨w, e⟩ | ⟨c, l, e⟩ <;> rw [e]
    · rw [e2] at un
      dsimp only at un
      rw [un, List.find?_cons, hp]
      exact loop_find hmk ds S2 h2 fun d' hd => st d' (List.mem_cons_of_mem _ hd)
def raiseK (c : Nat) (w : W) (S1 : Sx) : RS := match w with
  | .d (.int n) => if n.natAbs.log2 < 1920 then .ex c (some n) S1 else .bad
  | _ => .bad
def m1K (g : Sx → W → W → Option W) (me : ME) (a : W) (S1 : Sx) : RE W := match ws a with
  | some _ => RE.bind (me S1) fun b S2 => RE.of (g S2 a b) S2
  | none => .bad
theorem kE :
    (∀ (me : ME) (S : Sx), mItE me S = RE.bind (me S) fun w S1 => RE.of ((itl S1 w).map numD) S1) ∧ (∀ (S : Sx) (ds : List PyData), itl S (.d (.list ds)) = some ds) ∧
    (∀ (c : Nat) (me : ME) (S : Sx), mRaiseL c me S = RE.go (me S) (raiseK c)) ∧ (∀ (c : Nat) (n : Int) (S : Sx), raiseK c (.d (.int n)) S = if n.natAbs.log2 < 1920 then .ex c (some n) S else .bad) :=
  ⟨fun _ _ => rfl, fun _ _ => rfl, fun _ _ _ => rfl, fun _ _ _ => rfl⟩
theorem m1_var (g : Sx → W → W → Option W) (i : Nat) (z : Str) (me : ME) (S : Sx) (h : vget S i = some (.d (.str z))) : mM1 g (mVar i) me S = RE.bind (me S) fun b S2 => RE.of (g S2 (.d (.str z)) b) S2 := by
  unfold mM1 mVar
  rw [h]
  rfl
end Vf

set_option Elab.async false
set_option linter.all false
set_option maxRecDepth 100000
set_option maxHeartbeats 1000000
/-! Vm7: a comprehension with two fors and a test; a range that a name holds. -/
namespace Vf
open PySem PySem.Spec PyProof.Rows L2
theorem compS2_goF {t t1 : Tg} {vs vs1 : List Nat} {mi1 : MI} {mt1 : MT} {me : ME} {S : Sx} {es : PyData → List PyData} {g : PyData → PyData → Option PyData} {B : Nat} : ∀ (ds acc : List PyData), acc.length + ds.length * B ≤ 16777215 →
    (∀ d ∈ ds, ∃ Sd, bindT t (wipeS S vs) d = some Sd ∧ mi1 Sd = .ok (es d) Sd ∧ noOwn Sd vs1 = true ∧ (es d).length ≤ B ∧ ∀ e ∈ es d, CStep t1 vs1 mt1 me Sd e (g d e)) →
    compS2 t t1 vs vs1 mYes mi1 mt1 me ds acc S = .ok (acc ++ ds.flatMap fun d => (es d).filterMap (g d)) S
  | [], acc, _, _ => by rw [List.flatMap_nil, List.append_nil]; rfl
  | d :: ds, acc, hl, h => by
    obtain ⟨Sd, e1, e2, e3, e4, e5⟩ := h d (List.mem_cons_self ..)
    rw [List.length_cons, Nat.succ_mul] at hl
    show (match bindT t (wipeS S vs) d with
      | none => RE.bad
      | some S1 => (mi1 S1).bindB fun es S3 => if noOwn S3 vs1 && decide (acc.length + es.length ≤ 16777215) then (compS t1 vs1 mt1 me es acc S3).bindB fun acc' S4 => compS2 t t1 vs vs1 mYes mi1 mt1 me ds acc' { S with pen := S4.pen } else .bad) = _
    rw [e1]
    show (mi1 Sd).bindB _ = _
    rw [e2]
    show (if (noOwn Sd vs1 && decide (acc.length + (es d).length ≤ 16777215)) = true then _ else RE.bad) = _
    rw [e3, decide_eq_true (show acc.length + (es d).length ≤ 16777215 by omega), if_pos (by decide)]
    have c := compS_go (t := t1) (vs := vs1) (mt := mt1) (me := me) (S := Sd) (g := g d) (es d) acc e5
    rw [c]
    show compS2 t t1 vs vs1 mYes mi1 mt1 me ds (acc ++ (es d).filterMap (g d)) { S with pen := Sd.pen } = _
    have ep : Sd.pen = S.pen := (bindT_pn e1).trans rfl
    have fl : ((es d).filterMap (g d)).length ≤ (es d).length := List.length_filterMap_le _ _
    rw [sx_pen ep, compS2_goF ds _ (by rw [List.length_append]; omega) fun d' hd => h d' (List.mem_cons_of_mem _ hd), List.flatMap_cons, List.append_assoc]
theorem comp2_go {t t1 : Tg} {vs vs1 : List Nat} {mi mi1 : MI} {mt1 : MT} {me : ME} {S S1 : Sx} {ds : List PyData} {es : PyData → List PyData} {g : PyData → PyData → Option PyData} {B : Nat} (e : mi S = .ok ds S1) (no : noOwn S1 vs = true) (len : ds.length * B ≤ 16777215)
    (h : ∀ d ∈ ds, ∃ Sd, bindT t (wipeS S1 vs) d = some Sd ∧ mi1 Sd = .ok (es d) Sd ∧ noOwn Sd vs1 = true ∧ (es d).length ≤ B ∧ ∀ e ∈ es d, CStep t1 vs1 mt1 me Sd e (g d e)) :
    mComp2 t t1 vs vs1 mi mYes mi1 mt1 me S = .ok (.new (ds.flatMap fun d => (es d).filterMap (g d))) S1 := by
  unfold mComp2
  rw [e]
  show (if noOwn S1 vs then fin (compS2 t t1 vs vs1 mYes mi1 mt1 me ds [] S1) else .bad) = _
  rw [no, if_pos rfl, compS2_goF ds [] (by simpa using len) h]
  rfl
theorem gRng_ok {S : Sx} {n : Nat} (h : n < 2 ^ 62) : gRng S [.d (.int (n : Int))] = some (.xv (.rng n)) := by
  have e : wi (.d (.int (n : Int))) = some (n : Int) := rfl
  unfold gRng
  simp only [e]
  rw [if_pos (by omega), Int.toNat_natCast]
theorem cellOf_xv (y : XV) : cellOf (.xv y) = some (.w (.xv y)) := rfl
theorem itX_rng {n : Nat} (h : n < 2 ^ 62) : itX (.xv (.rng n)) = some (rngD 0 n) := if_pos h
theorem itX_ok {n i : Nat} {S : Sx} (e : vget S i = some (.xv (.rng n))) (h : n < 2 ^ 62) : mItX (mVar i) S = .ok (rngD 0 n) S := by
  unfold mItX mVar
  rw [e]
  show RE.of (itX (.xv (.rng n))) S = _
  rw [itX_rng h]
  rfl
end Vf

set_option Elab.async false
set_option linter.all false
set_option maxRecDepth 100000
set_option maxHeartbeats 4000000
namespace K01
open PySem PySem.Spec PyProof.Rows L2 Vf
local macro_rules | `(tactic| walk_at "ks") => `(tactic| simp only [kSO, start0, kSM, kSE, kSV, kSP, kSL, kSG, kD, kC, kIt, kCall, kM1, Option.map_some, Option.bind_some, sset_mk, Nat.reduceAdd, Nat.reduceLeDiff, ↓reduceIte, List.map_cons, List.map_nil, List.cons_append, List.nil_append, List.replicate, List.getElem?_cons_zero, List.getElem?_cons_succ, List.set_cons_zero, List.set_cons_succ, List.length_cons, List.length_nil, List.foldr_cons, List.foldr_nil])
/-- the law's own reading of a table -/
theorem isTabD_cons (x : PyData) (ds : List PyData) : isTabD (.tuple (x :: ds)) = (decide (ds.length ≤ 7) && (x :: ds).all isRowD && (x :: ds).all fun y => sLen y == sLen x) := rfl
theorem ltable_ok {d : PyData} (h : Fine d) : F__law_is_table [.d d] none = .ok (.d (.bool (isTabD d))) none := by
  unfold F__law_is_table m__law_is_table
  walk_at "ks"
  cases d with
  | tuple ds =>
    obtain ⟨hl, hs⟩ := h
    simp only [show isT (tyD (.tuple ds)) .tup = true from rfl, Bool.not_true]
    walk_at "ks"
    cases ds with
    | nil => rfl
    | cons x ds =>
      simp only [List.length_cons]
      have h1 : (1 : Int) ≤ ((ds.length + 1 : Nat) : Int) := by omega
      rw [decide_eq_true h1]
      walk_at "ks"
      by_cases h2 : ((ds.length + 1 : Nat) : Int) ≤ 8
      · rw [decide_eq_true h2]
        simp only [Bool.not_true]
        walk_at "ks"
        rw [comp_map (S := ⟨[some (.w (.d (.tuple (x :: ds)))), none, none], none⟩) (S1 := ⟨[some (.w (.d (.tuple (x :: ds)))), none, none], none⟩) (ds := x :: ds) (f := fun d => .bool (isT (tyD d) .str)) (by walk_at "ks") rfl (by rw [List.length_cons]; omega) (fun d hd => by
          refine mstep rfl ?_
          walk_at "ks")]
        simp only [kSE]
        rw [gAll_map]
        walk_at "ks"
        cases ha : (x :: ds).all (fun d => isT (tyD d) .str) with
        | false =>
          simp only [Bool.not_false]
          walk_at "ks"
          rw [isTabD_cons]
          have : (x :: ds).all isRowD = false := by
            rw [List.all_eq_false] at ha ⊢
            obtain ⟨y, hy, q⟩ := ha
            refine ⟨y, hy, fun e => q ?_⟩
            cases y with
            | str s => rfl
            | _ => cases e
          rw [this, Bool.and_false, Bool.false_and]
        | true =>
          simp only [Bool.not_true]
          walk_at "ks"
          have hx : ∀ y ∈ x :: ds, ∃ s, y = .str s ∧ s.length ≤ 1000 := fun y hy => by
            have := List.all_eq_true.1 ha y hy
            cases y with
            | str s => exact ⟨s, rfl, hs s hy⟩
            | _ => cases this
          have gl : ∀ y ∈ x :: ds, ∀ S, gLen S [.d y] = some (.d (.int (sLen y))) := fun y hy S => by
            obtain ⟨s, rfl, q⟩ := hx y hy
            exact gLen_str (by omega)
          have isr : ∀ y ∈ x :: ds, isRowD y = (decide (1 ≤ sLen y) && decide (sLen y ≤ 8) && match y with
            | .str s => s.cps.toList.all isSign
            | _ => false) := fun y hy => by
            obtain ⟨s, rfl, q⟩ := hx y hy
            rfl
          rw [atI_zero]
          walk_at "ks"
          rw [gl x (List.mem_cons_self ..)]
          walk_at "ks"
          by_cases h3 : (1 : Int) ≤ (sLen x : Int)
          · rw [decide_eq_true h3]
            walk_at "ks"
            by_cases h4 : (sLen x : Int) ≤ 8
            · rw [decide_eq_true h4]
              simp only [Bool.not_true]
              walk_at "ks"
              rw [comp_map (S := ⟨[some (.w (.d (.tuple (x :: ds)))), none, none], none⟩) (S1 := ⟨[some (.w (.d (.tuple (x :: ds)))), none, none], none⟩) (ds := x :: ds) (f := fun d => .bool (!(sLen d == sLen x))) (by walk_at "ks") rfl (by rw [List.length_cons]; omega) (fun d hd => by
                refine mstep rfl ?_
                walk_at "ks"
                rw [gl d hd]
                walk_at "ks"
                rw [atI_zero]
                walk_at "ks"
                rw [gl x (List.mem_cons_self ..)]
                walk_at "ks"
                rw [gNe_int]
                walk_at "ks"
                congr 4
                by_cases q : sLen d = sLen x
                · rw [q]; simp
                · rw [decide_eq_false (by omega), beq_eq_false_iff_ne.2 q])]
              simp only [kSE]
              rw [gAny_map]
              walk_at "ks"
              cases hb : (x :: ds).any (fun d => !(sLen d == sLen x)) with
              | true =>
                walk_at "ks"
                rw [isTabD_cons]
                have : (x :: ds).all (fun y => sLen y == sLen x) = false := by
                  rw [List.any_eq_true] at hb
                  obtain ⟨y, hy, q⟩ := hb
                  rw [List.all_eq_false]
                  exact ⟨y, hy, fun e => by rw [e] at q; cases q⟩
                rw [this, Bool.and_false]
              | false =>
                walk_at "ks"
                rw [comp_map (S := ⟨[some (.w (.d (.tuple (x :: ds)))), none, none], none⟩) (S1 := ⟨[some (.w (.d (.tuple (x :: ds)))), none, none], none⟩) (ds := x :: ds) (f := fun d => .bool (match d with
                    | .str s => s.cps.toList.all isSign
                    | _ => false)) (by walk_at "ks") rfl (by rw [List.length_cons]; omega) (fun d hd => by
                  obtain ⟨s, rfl, q⟩ := hx d hd
                  refine mstep rfl ?_
                  walk_at "ks"
                  rw [comp_map (S := ⟨[some (.w (.d (.tuple (x :: ds)))), some (.w (.d (.str s))), none], none⟩) (S1 := ⟨[some (.w (.d (.tuple (x :: ds)))), some (.w (.d (.str s))), none], none⟩) (ds := signsD s) (f := fun d => .bool (isSign (signOf d))) (by walk_at "ks") rfl (by rw [signs_len]; omega) (fun d hd => by
                    obtain ⟨c, rfl⟩ := mem_signs hd
                    refine mstep rfl ?_
                    walk_at "ks"
                    rw [gIn_sign]
                    rfl)]
                  walk_at "ks"
                  rw [gAll_map, signs_all]
                  rfl)]
                simp only [kSE]
                rw [gAll_map]
                walk_at "ks"
                rw [isTabD_cons]
                have e1 : (x :: ds).all (fun y => sLen y == sLen x) = true := by
                  rw [List.all_eq_true]
                  intro y hy
                  have := List.any_eq_false.1 hb y hy
                  cases q : sLen y == sLen x with
                  | true => rfl
                  | false => rw [q] at this; exact (this rfl).elim
                have e2 : (x :: ds).all isRowD = (x :: ds).all (fun d => match d with
                    | .str s => s.cps.toList.all isSign
                    | _ => false) := by
                  rw [Bool.eq_iff_iff, List.all_eq_true, List.all_eq_true]
                  have key : ∀ y ∈ x :: ds, isRowD y = (match y with
                    | .str s => s.cps.toList.all isSign
                    | _ => false) := fun y hy => by
                    have e3 := beq_iff_eq.1 (List.all_eq_true.1 e1 y hy)
                    rw [isr y hy, e3, decide_eq_true (show 1 ≤ sLen x by omega), decide_eq_true (show sLen x ≤ 8 by omega), Bool.true_and, Bool.true_and]
                  exact ⟨fun q y hy => (key y hy).symm.trans (q y hy), fun q y hy => (key y hy).trans (q y hy)⟩
                rw [e1, e2, decide_eq_true (show ds.length ≤ 7 by omega), Bool.true_and, Bool.and_true]
            · rw [decide_eq_false h4]
              simp only [Bool.not_false]
              walk_at "ks"
              have : isRowD x = false := by
                rw [isr x (List.mem_cons_self ..), decide_eq_false (show ¬ sLen x ≤ 8 by omega), Bool.and_false, Bool.false_and]
              rw [isTabD_cons, List.all_cons, this, Bool.false_and, Bool.and_false, Bool.false_and]
          · rw [decide_eq_false h3]
            walk_at "ks"
            simp only [Bool.not_false]
            walk_at "ks"
            have : isRowD x = false := by
              rw [isr x (List.mem_cons_self ..), decide_eq_false (show ¬ 1 ≤ sLen x by omega), Bool.false_and, Bool.false_and]
            rw [isTabD_cons, List.all_cons, this, Bool.false_and, Bool.and_false, Bool.false_and]
      · rw [decide_eq_false h2]
        simp only [Bool.not_false]
        walk_at "ks"
        rw [isTabD_cons, decide_eq_false (show ¬ ds.length ≤ 7 by omega), Bool.false_and, Bool.false_and]
  | _ =>
    rw [show isT (tyD _) Ty.tup = false from rfl]
    simp only [Bool.not_false]
    walk_at "ks"
    rfl
/-- the columns that a row has -/
def hadB (r : List Bool) (cs : List Nat) : List Nat := cs.filter fun c => r.getD c false
/-- the signs of a row at places -/
theorem signs_ok {r : List Bool} {cs : List Nat} (hc : ∀ c ∈ cs, c < r.length) (hr : r.length ≤ 1000) (hl : cs.length ≤ 1000) :
    F_signs_at [.d (.str (rowS r)), .d (.tuple (intsN cs))] none = .ok (.d (.str (rowS (cs.map fun c => r.getD c false)))) none := by
  unfold F_signs_at m_signs_at
  walk_at "ks"
  rw [comp_map (S := ⟨[some (.w (.d (.str (rowS r)))), some (.w (.d (.tuple (intsN cs)))), none], none⟩) (S1 := ⟨[some (.w (.d (.str (rowS r)))), some (.w (.d (.tuple (intsN cs)))), none], none⟩) (ds := intsN cs) (f := fun d => .str ⟨#[sgc (r.getD (natD d) false)]⟩) (by walk_at "ks") rfl (by rw [List.length_map]; omega) (fun d hd => by
    obtain ⟨c, hcm, rfl⟩ := mem_intsN hd
    refine mstep rfl ?_
    walk_at "ks"
    rw [gIxS_row (hc c hcm) hr]
    rfl)]
  walk_at "ks"
  rw [gJoin_signs (cs := cs.map fun c => sgc (r.getD c false)) (by show some _ = some _; rw [List.map_map, List.map_map]; rfl) (by rw [List.length_map]; omega)]
  walk_at "ks"
  congr 4
  rw [List.map_map]
  rfl
/-- a table of some rows and columns -/
def partB (t : List (List Bool)) (rs cs : List Nat) : List (List Bool) := rs.map fun r => cs.map fun c => (t.getD r []).getD c false
theorem lpart_ok {t : List (List Bool)} {m : Nat} {rs cs : List Nat} {dr dc : PyData} (T : Tbl t m) (hr : ∀ r ∈ rs, r < t.length) (hc : ∀ c ∈ cs, c < m) (lr : rs.length ≤ 1000) (lc : cs.length ≤ 1000) (er : dr = .tuple (intsN rs) ∨ dr = .list (intsN rs)) (ec : dc = .tuple (intsN cs) ∨ dc = .list (intsN cs)) :
    F__law_part [.d (tabD t), .d dr, .d dc] none = .ok (.d (tabD (partB t rs cs))) none := by
  unfold F__law_part m__law_part
  walk_at "ks"
  rw [comp_map (S := ⟨[some (.w (.d (tabD t))), some (.w (.d dr)), some (.w (.d dc)), none, none], none⟩) (S1 := ⟨[some (.w (.d (tabD t))), some (.w (.d dr)), some (.w (.d dc)), none, none], none⟩) (ds := intsN rs) (f := fun d => .str (rowS (cs.map fun c => (t.getD (natD d) []).getD c false))) (ita_ok rfl er) rfl (by rw [List.length_map]; omega) (fun d hd => by
    obtain ⟨r, hrm, rfl⟩ := mem_intsN hd
    refine mstep rfl ?_
    walk_at "ks"
    have lrw : (t.getD r []).length = m := T.at (hr r hrm)
    have m8 := T.m8
    rw [comp_map (S := ⟨[some (.w (.d (tabD t))), some (.w (.d dr)), some (.w (.d dc)), some (.w (.d (.int (r : Int)))), none], none⟩) (S1 := ⟨[some (.w (.d (tabD t))), some (.w (.d dr)), some (.w (.d dc)), some (.w (.d (.int (r : Int)))), none], none⟩) (ds := intsN cs) (f := fun d => .str ⟨#[sgc ((t.getD r []).getD (natD d) false)]⟩) (ita_ok rfl ec) rfl (by rw [List.length_map]; omega) (fun d hd => by
      obtain ⟨c, hcm, rfl⟩ := mem_intsN hd
      refine mstep rfl ?_
      walk_at "ks"
      rw [gIxT_row (hr r hrm)]
      walk_at "ks"
      rw [gIxS_row (by rw [lrw]; exact hc c hcm) (by omega)]
      rfl)]
    walk_at "ks"
    rw [gJoin_signs (cs := cs.map fun c => sgc ((t.getD r []).getD c false)) (by show some _ = some _; rw [List.map_map, List.map_map]; rfl) (by rw [List.length_map]; omega)]
    walk_at "ks"
    rw [natD_int]
    congr 3
    unfold rowS
    rw [List.map_map]
    rfl)]
  walk_at "ks"
  rw [gTuple_new]
  walk_at "ks"
  congr 3
  unfold partB
  rw [List.map_map, List.map_map]
  rfl
/-- the other way round -/
def turnB (t : List (List Bool)) : List (List Bool) := (List.range (t.getD 0 []).length).map fun c => t.map fun r => r.getD c false
theorem lturned_ok {t : List (List Bool)} {m : Nat} (T : Tbl t m) : F__law_turned [.d (tabD t)] none = .ok (.d (tabD (turnB t))) none := by
  have r1 := T.r1
  have r8 := T.r8
  have m8 := T.m8
  have l0 : (t.getD 0 []).length = m := T.at r1
  unfold F__law_turned m__law_turned
  walk_at "ks"
  rw [comp_map (S := ⟨[some (.w (.d (tabD t))), none, none], none⟩) (S1 := ⟨[some (.w (.d (tabD t))), none, none], none⟩) (ds := rngD 0 m) (f := fun d => .str (rowS (t.map fun r => r.getD (natD d) false))) (by
      walk_at "ks"
      rw [gIxT_row0 r1]
      walk_at "ks"
      rw [gLen_row (by omega), l0]
      walk_at "ks"
      rw [rg1_ok (by omega)]
      walk_at "ks") rfl (by rw [rngD_len]; omega) (fun d hd => by
    obtain ⟨c, rfl, hcm⟩ := mem_rngD hd
    refine mstep rfl ?_
    walk_at "ks"
    rw [comp_map (S := ⟨[some (.w (.d (tabD t))), some (.w (.d (.int (c : Int)))), none], none⟩) (S1 := ⟨[some (.w (.d (tabD t))), some (.w (.d (.int (c : Int)))), none], none⟩) (ds := t.map fun r => .str (rowS r)) (f := fun d => .str ⟨#[(match d with
        | .str x => x.cps.getD c 0
        | _ => 0)]⟩) (by walk_at "ks"; rfl) rfl (by rw [List.length_map]; omega) (fun d hd => by
      obtain ⟨r, hrm, rfl⟩ := List.mem_map.1 hd
      refine mstep rfl ?_
      walk_at "ks"
      rw [gIxS_row (by rw [T.row r hrm]; exact hcm) (by have := T.row r hrm; omega)]
      show RE.ok _ _ = RE.ok _ _
      congr 4
      show #[sgc (r.getD c false)] = #[(r.map sgc).toArray.getD c 0]
      congr 2
      have hc : c < r.length := by rw [T.row r hrm]; exact hcm
      rw [List.getD_eq_getElem?_getD, List.getElem?_eq_getElem hc, Option.getD_some]
      simp [Array.getD_eq_getD_getElem?, hc])]
    walk_at "ks"
    rw [gJoin_signs (cs := t.map fun r => sgc (r.getD c false)) (by
      show some _ = some _
      rw [List.map_map, List.map_map]
      congr 1
      refine List.map_congr_left fun r hrm => ?_
      show PyData.str ⟨#[(r.map sgc).toArray.getD c 0]⟩ = PyData.str ⟨#[sgc (r.getD c false)]⟩
      have hc : c < r.length := by rw [T.row r hrm]; exact hcm
      congr 3
      rw [List.getD_eq_getElem?_getD, List.getElem?_eq_getElem hc, Option.getD_some]
      simp [Array.getD_eq_getD_getElem?, hc]) (by rw [List.length_map]; omega)]
    walk_at "ks"
    rw [natD_int]
    congr 3
    unfold rowS
    rw [List.map_map]
    rfl)]
  walk_at "ks"
  rw [gTuple_new]
  walk_at "ks"
  congr 3
  unfold turnB rngD
  rw [l0, List.map_map, List.map_map]
  refine List.map_congr_left fun c _ => ?_
  show PyData.str (rowS (t.map fun r => r.getD (natD (.int (0 + (c : Int)))) false)) = _
  rw [Int.zero_add]
  rfl
theorem turn_tbl {t : List (List Bool)} {m : Nat} (T : Tbl t m) : Tbl (turnB t) t.length := by
  have r1 := T.r1
  have l0 : (t.getD 0 []).length = m := T.at r1
  refine ⟨?_, ?_, T.r1, T.r8, fun r hr => ?_⟩
  · unfold turnB; rw [List.length_map, List.length_range, l0]; exact T.m1
  · unfold turnB; rw [List.length_map, List.length_range, l0]; exact T.m8
  · obtain ⟨c, _, rfl⟩ := List.mem_map.1 hr
    rw [List.length_map]
theorem turned_ok {t : List (List Bool)} {m : Nat} (T : Tbl t m) : F_turned [.d (tabD t)] none = .ok (.d (tabD (turnB t))) none := by
  have r1 := T.r1
  have r8 := T.r8
  have m8 := T.m8
  have l0 : (t.getD 0 []).length = m := T.at r1
  unfold F_turned m_turned
  walk_at "ks"
  rw [call_none (n := 1) (ws := [.d (tabD t)]) (as := [.d (tabD t)]) rfl rfl rfl (check_tab T)]
  walk_at "ks"
  rw [comp_map (S := ⟨[some (.w (.d (tabD t))), none], none⟩) (S1 := ⟨[some (.w (.d (tabD t))), none], none⟩) (ds := colsD t m) (f := fun d => .str (Txt.join "" (match d with
      | .tuple ss => (strsD ss).getD []
      | _ => []))) (zip_tab T rfl) rfl (by unfold colsD; rw [List.length_map, List.length_range]; omega) (fun d hd => by
    obtain ⟨c, hc, rfl⟩ := List.mem_map.1 hd
    refine mstep rfl ?_
    walk_at "ks"
    have e := strsD_map (fun r : List Bool => (⟨#[sgc (r.getD c false)]⟩ : Str)) t
    rw [gJoin_ok (ds := t.map fun r => PyData.str ⟨#[sgc (r.getD c false)]⟩) rfl e (by
      have q : (t.map fun r : List Bool => (⟨#[sgc (r.getD c false)]⟩ : Str)) = (t.map fun r => sgc (r.getD c false)).map fun k => (⟨#[k]⟩ : Str) := by rw [List.map_map]; rfl
      rw [q, sum_ones, List.length_map, List.length_map, show Str.length (Str.ofString "") = 0 from by decide +kernel]
      omega)]
    walk_at "ks"
    rw [e]
    rfl)]
  walk_at "ks"
  rw [gTuple_new]
  walk_at "ks"
  congr 3
  unfold turnB colsD
  rw [l0, List.map_map, List.map_map]
  refine List.map_congr_left fun c _ => ?_
  have e := strsD_map (fun r : List Bool => (⟨#[sgc (r.getD c false)]⟩ : Str)) t
  show PyData.str (Txt.join "" ((strsD (t.map fun r => PyData.str ⟨#[sgc (r.getD c false)]⟩)).getD [])) = .str (rowS (t.map fun r => r.getD c false))
  rw [e, Option.getD_some]
  have q : (t.map fun r : List Bool => (⟨#[sgc (r.getD c false)]⟩ : Str)) = (t.map fun r => sgc (r.getD c false)).map fun k => (⟨#[k]⟩ : Str) := by rw [List.map_map]; rfl
  rw [q, glue_signs]
  unfold rowS
  rw [List.map_map]
  rfl
/-- all places with a tick -/
def ticksB (t : List (List Bool)) (m : Nat) : List PyData := (List.range t.length).flatMap fun r => (hadB (t.getD r []) (List.range m)).map fun c => .tuple [.int ((r : Nat) : Int), .int ((c : Nat) : Int)]
theorem filter_two (p : Nat → Bool) (x : PyData) : ∀ cs : List Nat, (intsN cs).filterMap (fun d => if p (natD d) then some (PyData.tuple [x, d]) else none) = (cs.filter p).map fun c => PyData.tuple [x, .int ((c : Nat) : Int)]
  | [] => rfl
  | c :: cs => by
    show List.filterMap _ (PyData.int ((c : Nat) : Int) :: intsN cs) = _
    rw [List.filterMap_cons, natD_int, List.filter_cons]
    cases p c with
    | true =>
      show PyData.tuple [x, .int ((c : Nat) : Int)] :: List.filterMap _ (intsN cs) = _
      rw [filter_two p x cs]
      rfl
    | false =>
      show List.filterMap _ (intsN cs) = _
      rw [filter_two p x cs]
      rfl
theorem places_ok {t : List (List Bool)} {m : Nat} (T : Tbl t m) : F_places_of [.d (tabD t), .d (.str "x")] none = .ok (.new (ticksB t m)) none := by
  have r1 := T.r1
  have r8 := T.r8
  have m8 := T.m8
  have l0 : (t.getD 0 []).length = m := T.at r1
  unfold F_places_of m_places_of
  walk_at "ks"
  rw [gIxT_row0 r1]
  walk_at "ks"
  rw [gLen_row (by omega), l0]
  walk_at "ks"
  rw [gRng_ok (by omega)]
  walk_at "ks"
  rw [cellOf_xv]
  walk_at "ks"
  rw [comp2_go (B := 8) (S := ⟨[some (.w (.d (tabD t))), some (.w (.d (.str "x"))), some (.w (.xv (.rng m))), none, none], none⟩) (S1 := ⟨[some (.w (.d (tabD t))), some (.w (.d (.str "x"))), some (.w (.xv (.rng m))), none, none], none⟩) (ds := rngD 0 t.length) (es := fun _ => rngD 0 m)
    (g := fun d e => if (t.getD (natD d) []).getD (natD e) false then some (PyData.tuple [d, e]) else none) (by
      walk_at "ks"
      rw [gLen_tab]
      walk_at "ks"
      rw [rg1_ok (by omega)]
      rfl) rfl (by rw [rngD_len]; omega) (fun d hd => by
    obtain ⟨r, rfl, hr⟩ := mem_rngD hd
    refine ⟨_, rfl, itX_ok rfl (by omega), rfl, by rw [rngD_len]; exact m8, fun e he => ?_⟩
    obtain ⟨c, rfl, hc⟩ := mem_rngD he
    have lr : (t.getD r []).length = m := T.at hr
    rw [natD_int, natD_int]
    cases hb : (t.getD r []).getD c false with
    | true =>
      refine cstep_t (x := .tuple [.int (r : Int), .int (c : Int)]) rfl ?_ ?_ rfl
      · walk_at "ks"
        rw [gIxT_row hr]
        walk_at "ks"
        rw [gIxS_row (by rw [lr]; exact hc) (by omega), hb]
        walk_at "ks"
        rw [gEq_tick]
        rfl
      · walk_at "ks"
    | false =>
      refine cstep_f rfl ?_ rfl
      walk_at "ks"
      rw [gIxT_row hr]
      walk_at "ks"
      rw [gIxS_row (by rw [lr]; exact hc) (by omega), hb]
      walk_at "ks"
      rw [gEq_tick]
      rfl)]
  walk_at "ks"
  congr 2
  unfold ticksB
  rw [show rngD 0 t.length = intsN (List.range t.length) from (rng_intsN t.length).symm ▸ rfl, List.flatMap_map]
  refine flatMap_ext fun r hr => ?_
  rw [natD_int, show rngD 0 m = intsN (List.range m) from (rng_intsN m).symm ▸ rfl]
  exact filter_two (fun c => (t.getD r []).getD c false) (.int (r : Int)) (List.range m)
theorem ticks_ok {t : List (List Bool)} {m : Nat} (T : Tbl t m) : F_ticks [.d (tabD t)] none = .ok (.new (ticksB t m)) none := by
  unfold F_ticks m_ticks
  walk_at "ks"
  rw [call_none (n := 1) (ws := [.d (tabD t)]) (as := [.d (tabD t)]) rfl rfl rfl (check_tab T)]
  walk_at "ks"
  rw [call_none (n := 2) (ws := [.d (tabD t), .d (.str "x")]) (as := [.d (tabD t), .d (.str "x")]) rfl rfl rfl (places_ok T)]
  walk_at "ks"
/-! ### checks -/
theorem int_ok (d : PyData) : F_is_integer [.d d] none = .ok (.d (.bool (isIntD d))) none := by
  unfold F_is_integer m_is_integer
  cases d <;> rfl
theorem intTo_ok (d : PyData) (m : Int) : F_is_integer_to [.d d, .d (.int m)] none = .ok (.d (.bool (intTo m d))) none := by
  unfold F_is_integer_to m_is_integer_to
  walk_at "ks"
  rw [call_none (n := 1) (ws := [.d d]) (as := [.d d]) rfl rfl rfl (int_ok d)]
  walk_at "ks"
  cases d with
  | int i =>
    rw [show isIntD (.int i) = true from rfl]
    walk_at "ks"
    show _ = RF.ok (.d (.bool (decide (0 ≤ i) && decide (i ≤ m)))) none
    by_cases h : 0 ≤ i
    · rw [decide_eq_true h]
      walk_at "ks"
      rw [Bool.true_and]
    · rw [decide_eq_false h]
      walk_at "ks"
      rw [Bool.false_and]
  | _ =>
    rw [show isIntD _ = false from rfl]
    walk_at "ks"
    rfl
theorem index_ok (d : PyData) (n : Int) : F_is_index [.d d, .d (.int n)] none = .ok (.d (.bool (intTo (n - 1) d))) none := by
  unfold F_is_index m_is_index
  walk_at "ks"
  rw [call_none (n := 2) (ws := [.d d, .d (.int (n - 1))]) (as := [.d d, .d (.int (n - 1))]) rfl rfl rfl (intTo_ok d (n - 1))]
  walk_at "ks"
theorem indexes_ok {d : PyData} {n : Int} (h : Fine d) : F_are_indexes [.d d, .d (.int n)] none = .ok (.d (.bool (areIx n d))) none := by
  unfold F_are_indexes m_are_indexes
  walk_at "ks"
  cases d with
  | tuple ds =>
    rw [show isT (tyD (.tuple ds)) Ty.tup = true from rfl]
    walk_at "ks"
    rw [comp_map (S := ⟨[some (.w (.d (.tuple ds))), some (.w (.d (.int n))), none], none⟩) (S1 := ⟨[some (.w (.d (.tuple ds))), some (.w (.d (.int n))), none], none⟩) (ds := ds) (f := fun d => .bool (intTo (n - 1) d)) (by walk_at "ks") rfl (by have := h.1; omega) (fun d hd => by
      refine mstep rfl ?_
      walk_at "ks"
      exact call_none (n := 2) (ws := [.d d, .d (.int n)]) (as := [.d d, .d (.int n)]) rfl rfl rfl (index_ok d n))]
    walk_at "ks"
    rw [gAll_map]
    rfl
  | _ =>
    rw [show isT (tyD _) Ty.tup = false from rfl]
    walk_at "ks"
    rfl
theorem lines_ok {d : PyData} {n : Int} (h : Fine d) : F_are_lines [.d d, .d (.int n)] none = .ok (.d (.bool (areLn n d))) none := by
  unfold F_are_lines m_are_lines
  walk_at "ks"
  rw [call_none (n := 2) (ws := [.d d, .d (.int n)]) (as := [.d d, .d (.int n)]) rfl rfl rfl (indexes_ok h)]
  walk_at "ks"
  cases d with
  | tuple ds =>
    show _ = RF.ok (.d (.bool (ds.all (intTo (n - 1)) && !ds.isEmpty && ((dd ((intsD ds).getD [])).length == ds.length)))) none
    cases ha : ds.all (intTo (n - 1)) with
    | false =>
      rw [show areIx n (.tuple ds) = false from ha]
      simp only [Bool.not_false]
      walk_at "ks"
      rfl
    | true =>
      rw [show areIx n (.tuple ds) = true from ha]
      simp only [Bool.not_true]
      walk_at "ks"
      rw [gEq_int]
      walk_at "ks"
      obtain ⟨ns, e, l⟩ := intsD_of ha
      have hl := h.1
      cases ds with
      | nil => rfl
      | cons x ds =>
        rw [decide_eq_false (show ¬ (((x :: ds).length : Nat) : Int) = 0 by rw [List.length_cons]; omega)]
        walk_at "ks"
        rw [gLenSet_ok e (by omega)]
        walk_at "ks"
        rw [gEq_int]
        walk_at "ks"
        rw [e, Option.getD_some]
        congr 3
        show decide (((dd ns).length : Int) = ((ds.length + 1 : Nat) : Int)) = ((dd ns).length == ds.length + 1)
        by_cases q : (dd ns).length = ds.length + 1
        · rw [q, beq_self_eq_true, decide_eq_true rfl]
        · rw [decide_eq_false (by omega), beq_eq_false_iff_ne.2 q]
  | _ =>
    rw [show areIx n _ = false from rfl]
    simp only [Bool.not_false]
    walk_at "ks"
    rfl
/-- a table's part -/
theorem part_ok {t : List (List Bool)} {m : Nat} {rs cs : List Nat} (T : Tbl t m) (hr : ∀ r ∈ rs, r < t.length) (hc : ∀ c ∈ cs, c < m) (nr : rs.Nodup) (nc : cs.Nodup) (r0 : rs ≠ []) (c0 : cs ≠ []) (lr : rs.length ≤ 1000) (lc : cs.length ≤ 1000) :
    F_part [.d (tabD t), .d (.tuple (intsN rs)), .d (.tuple (intsN cs))] none = .ok (.d (tabD (partB t rs cs))) none := by
  have r1 := T.r1
  have m8 := T.m8
  have l0 : (t.getD 0 []).length = m := T.at r1
  have fine : ∀ cs : List Nat, cs.length ≤ 1000 → Fine (.tuple (intsN cs)) := fun cs l => ⟨by rw [List.length_map]; exact l, fun s hs => by obtain ⟨c, _, e⟩ := mem_intsN hs; cases e⟩
  have good : ∀ (cs : List Nat) (n : Nat), (∀ c ∈ cs, c < n) → cs.Nodup → cs ≠ [] → areLn (n : Int) (.tuple (intsN cs)) = true := fun cs n hc nd c0 => by
    show ((intsN cs).all (intTo ((n : Int) - 1)) && !(intsN cs).isEmpty && ((dd ((intsD (intsN cs)).getD [])).length == (intsN cs).length)) = true
    rw [intsD_N, Option.getD_some, dd_same, List.length_map, List.length_map, beq_self_eq_true, Bool.and_true, Bool.and_eq_true]
    · refine ⟨List.all_eq_true.2 fun d hd => ?_, ?_⟩
      · obtain ⟨c, hcm, rfl⟩ := mem_intsN hd
        have := hc c hcm
        show (decide (0 ≤ (c : Int)) && decide ((c : Int) ≤ (n : Int) - 1)) = true
        rw [decide_eq_true (by omega), decide_eq_true (by omega)]
        rfl
      · cases cs with
        | nil => exact (c0 rfl).elim
        | cons c cs => rfl
    · exact nd.map _ fun a b h e => h (by omega)
  unfold F_part m_part
  walk_at "ks"
  rw [call_none (n := 1) (ws := [.d (tabD t)]) (as := [.d (tabD t)]) rfl rfl rfl (check_tab T)]
  walk_at "ks"
  rw [gLen_tab]
  walk_at "ks"
  rw [call_none (n := 2) (ws := [.d (.tuple (intsN rs)), .d (.int t.length)]) (as := [.d (.tuple (intsN rs)), .d (.int t.length)]) rfl rfl rfl (lines_ok (fine rs lr)), good rs t.length hr nr r0]
  walk_at "ks"
  simp only [Bool.not_true]
  walk_at "ks"
  rw [gIxT_row0 r1]
  walk_at "ks"
  rw [gLen_row (by omega), l0]
  walk_at "ks"
  rw [call_none (n := 2) (ws := [.d (.tuple (intsN cs)), .d (.int m)]) (as := [.d (.tuple (intsN cs)), .d (.int m)]) rfl rfl rfl (lines_ok (fine cs lc)), good cs m hc nc c0]
  walk_at "ks"
  simp only [Bool.not_true]
  walk_at "ks"
  rw [comp_map (S := ⟨[some (.w (.d (tabD t))), some (.w (.d (.tuple (intsN rs)))), some (.w (.d (.tuple (intsN cs)))), none], none⟩) (S1 := ⟨[some (.w (.d (tabD t))), some (.w (.d (.tuple (intsN rs)))), some (.w (.d (.tuple (intsN cs)))), none], none⟩) (ds := intsN rs) (f := fun d => .str (rowS (cs.map fun c => (t.getD (natD d) []).getD c false))) (by walk_at "ks") rfl (by rw [List.length_map]; omega) (fun d hd => by
    obtain ⟨r, hrm, rfl⟩ := mem_intsN hd
    refine mstep rfl ?_
    walk_at "ks"
    have lrw : (t.getD r []).length = m := T.at (hr r hrm)
    rw [gIxT_row (hr r hrm)]
    walk_at "ks"
    exact call_none (n := 2) (ws := [.d (.str (rowS (t.getD r []))), .d (.tuple (intsN cs))]) (as := [.d (.str (rowS (t.getD r []))), .d (.tuple (intsN cs))]) rfl rfl rfl (signs_ok (fun c h => by rw [lrw]; exact hc c h) (by omega) lc))]
  walk_at "ks"
  rw [gTuple_new]
  walk_at "ks"
  congr 3
  unfold partB
  rw [List.map_map, List.map_map]
  rfl
/-- lines that are none are refused -/
theorem part_lines {t : List (List Bool)} {m : Nat} {dr dc : PyData} (T : Tbl t m) (fr : Fine dr) (fc : Fine dc) (h : areLn (t.length : Int) dr = false ∨ areLn (m : Int) dc = false) : F_part [.d (tabD t), .d dr, .d dc] none = .ex 1 none none := by
  have r1 := T.r1
  have m8 := T.m8
  have l0 : (t.getD 0 []).length = m := T.at r1
  unfold F_part m_part
  walk_at "ks"
  rw [call_none (n := 1) (ws := [.d (tabD t)]) (as := [.d (tabD t)]) rfl rfl rfl (check_tab T)]
  walk_at "ks"
  rw [gLen_tab]
  walk_at "ks"
  rw [call_none (n := 2) (ws := [.d dr, .d (.int t.length)]) (as := [.d dr, .d (.int t.length)]) rfl rfl rfl (lines_ok fr)]
  walk_at "ks"
  cases hr : areLn (t.length : Int) dr with
  | false =>
    simp only [Bool.not_false]
    walk_at "ks"
  | true =>
    have hc : areLn (m : Int) dc = false := by
      rcases h with h | h
      · rw [hr] at h; cases h
      · exact h
    simp only [Bool.not_true]
    walk_at "ks"
    rw [gIxT_row0 r1]
    walk_at "ks"
    rw [gLen_row (by omega), l0]
    walk_at "ks"
    rw [call_none (n := 2) (ws := [.d dc, .d (.int m)]) (as := [.d dc, .d (.int m)]) rfl rfl rfl (lines_ok fc), hc]
    walk_at "ks"
    simp only [Bool.not_false]
    walk_at "ks"
/-- what is no table is refused -/
theorem refused {d : PyData} (h : Fine d) (no : isTabD d = false) : F_check_table [.d d] none = .ex 2 none none := by rw [check_ok h, no]; rfl
theorem turned_no {d : PyData} (h : Fine d) (no : isTabD d = false) : F_turned [.d d] none = .ex 2 none none := by
  unfold F_turned m_turned
  walk_at "ks"
  rw [call_none_ex (n := 1) (ws := [.d d]) (as := [.d d]) rfl rfl rfl (refused h no)]
  walk_at "ks"
theorem ticks_no {d : PyData} (h : Fine d) (no : isTabD d = false) : F_ticks [.d d] none = .ex 2 none none := by
  unfold F_ticks m_ticks
  walk_at "ks"
  rw [call_none_ex (n := 1) (ws := [.d d]) (as := [.d d]) rfl rfl rfl (refused h no)]
  walk_at "ks"
theorem part_no {d dr dc : PyData} (h : Fine d) (no : isTabD d = false) : F_part [.d d, .d dr, .d dc] none = .ex 2 none none := by
  unfold F_part m_part
  walk_at "ks"
  rw [call_none_ex (n := 1) (ws := [.d d]) (as := [.d d]) rfl rfl rfl (refused h no)]
  walk_at "ks"
end K01

set_option Elab.async false
set_option linter.all false
set_option maxRecDepth 100000
set_option maxHeartbeats 4000000
namespace K01
open PySem PySem.Spec PyProof.Rows L2 Vf
local macro_rules | `(tactic| walk_at "ks") => `(tactic| simp only [kSO, start0, kSM, kSE, kSV, kSP, kSL, kSG, kD, kC, kIt, kCall, kM1, kPar, Option.map_some, Option.bind_some, sset_mk, Nat.reduceAdd, Nat.reduceLeDiff, ↓reduceIte, List.map_cons, List.map_nil, List.cons_append, List.nil_append, List.replicate, List.getElem?_cons_zero, List.getElem?_cons_succ, List.set_cons_zero, List.set_cons_succ, List.length_cons, List.length_nil, List.foldr_cons, List.foldr_nil])
theorem shuffled_ok {n : Nat} {π : Pen} {cs : List Nat} (h : PenOk (n + cs.length) π) (hl : cs.length < 99) : ∃ xs π', F__law_shuffled [.pen, .d (.list (intsN cs))] (some π) = .ok (.new (intsN xs)) (some π') ∧ xs.Perm cs ∧ PenOk n π' := by
  unfold F__law_shuffled m__law_shuffled
  walk_at "ks"
  obtain ⟨S', e, rest, found, π', hS, hr, hp, hperm⟩ := while_inv (mt := mTest (mBin gNe (mVar 2) (mLst (mNil)))) (body := mAppend 3 (mPop 2 (mCall 2 F__law_draw (mCons (mVar 0) (mCons (mFn gLen (mCons (mVar 2) (mNil))) (mNil))))))
    (fun k S => ∃ (rest found : List Nat) (π : Pen), S = ⟨[some (.w .pen), some (.w (.d (.list (intsN cs)))), some (.lst (intsN rest)), some (.lst (intsN found))], some π⟩ ∧ rest.length = k ∧ PenOk (n + k) π ∧ (found ++ rest).Perm cs)
    (fun S ⟨rest, found, π, hS, hr, hp, hperm⟩ => by
      subst hS
      walk_at "ks"
      rw [gNe_ownN (cs := rest) rfl]
      cases rest with
      | nil => rfl
      | cons _ _ => cases hr)
    (fun k S ⟨rest, found, π, hS, hr, hp, hperm⟩ => by
      subst hS
      have hll : (found ++ rest).length = cs.length := hperm.length_eq
      rw [List.length_append] at hll
      refine ⟨?_, ?_⟩
      · walk_at "ks"
        rw [gNe_ownN (cs := rest) rfl]
        cases rest with
        | nil => cases hr
        | cons _ _ => rfl
      · obtain ⟨d, π', e, d0, d1, p'⟩ := call_draw (u := (rest.length : Int)) [some (.w .pen), some (.w (.d (.list (intsN cs)))), some (.lst (intsN rest)), some (.lst (intsN found))] (n := n + k) hp (by omega) (by omega)
        obtain ⟨j, rfl⟩ := Int.eq_ofNat_of_zero_le d0
        have hj : j < rest.length := by omega
        have pe := pop_ok (i := 2) (me := mCall 2 F__law_draw (mCons (mVar 0) (mCons (mFn gLen (mCons (mVar 2) (mNil))) (mNil)))) (S := ⟨[some (.w .pen), some (.w (.d (.list (intsN cs)))), some (.lst (intsN rest)), some (.lst (intsN found))], some π⟩) (S1 := ⟨[some (.w .pen), some (.w (.d (.list (intsN cs)))), some (.lst (intsN rest)), some (.lst (intsN found))], some π'⟩) (ds := intsN rest) (ds1 := intsN rest) (j := j) (d := .int (rest[j] : Nat)) rfl (by
          walk_at "ks"
          rw [gLen_own (ds := intsN rest) rfl]
          walk_at "ks"
          rw [List.length_map]
          exact e) rfl (by rw [List.getElem?_map, List.getElem?_eq_getElem hj]; rfl) (by rw [List.length_map]; omega)
        refine ⟨_, app_ok (ds := intsN found) (ds1 := intsN found) rfl pe rfl rfl (by rw [List.length_map]; omega), rest.eraseIdx j, found ++ [rest[j]], π', ?_, by rw [List.length_eraseIdx]; simp [hj]; omega, p', perm_pop hperm (List.getElem?_eq_getElem hj)⟩
        walk_at "ks"
        simp only [erase_map, intsN, List.map_append, List.map_cons, List.map_nil])
    cs.length 100 ⟨[some (.w .pen), some (.w (.d (.list (intsN cs)))), some (.lst (intsN cs)), some (.lst [])], some π⟩ (by omega) ⟨cs, [], π, rfl, rfl, h, List.Perm.refl _⟩
  subst hS
  rw [e]
  walk_at "ks"
  rw [outF_own (ds := intsN found) rfl]
  have : rest = [] := List.eq_nil_of_length_eq_zero hr
  subst this
  exact ⟨found, π', rfl, by simpa using hperm, by simpa using hp⟩
theorem some_ok {n k : Nat} {π : Pen} (hk : 1 ≤ k) (hk8 : k ≤ 8) (h : PenOk (n + 9) π) : ∃ xs π', F__law_some [.pen, .d (.list (intsN (List.range k))), .d (.int 8)] (some π) = .ok (.new (intsN xs)) (some π') ∧ xs.Nodup ∧ (∀ x ∈ xs, x < k) ∧ xs.length ≤ k ∧ PenOk n π' := by
  have ind : ∀ (ds : List PyData) (found rest : List Nat) (π : Pen), ds.length ≤ rest.length → PenOk (n + ds.length) π → (found ++ rest).Perm (List.range k) → ∃ found' rest' π', compSL (.one 4) [4] mYes (mPop 3 (mCall 2 F__law_draw (mCons (mVar 0) (mCons (mFn gLen (mCons (mVar 3) (mNil))) (mNil))))) ds (intsN found) ⟨[some (.w .pen), some (.w (.d (.list (intsN (List.range k))))), some (.w (.d (.int 8))), some (.lst (intsN rest)), none], some π⟩ =
      .ok (intsN found') ⟨[some (.w .pen), some (.w (.d (.list (intsN (List.range k))))), some (.w (.d (.int 8))), some (.lst (intsN rest')), none], some π'⟩ ∧ (found' ++ rest').Perm (List.range k) ∧ PenOk n π' := by
    intro ds
    induction ds with
    | nil => exact fun found rest π _ hp perm => ⟨found, rest, π, rfl, perm, by simpa using hp⟩
    | cons d ds ih =>
      intro found rest π hl hp perm
      rw [List.length_cons] at hl hp
      obtain ⟨j, π1, e, d0, d1, p1⟩ := call_draw (u := (rest.length : Int)) [some (.w .pen), some (.w (.d (.list (intsN (List.range k))))), some (.w (.d (.int 8))), some (.lst (intsN rest)), some (.w (.d d))] (n := n + ds.length) hp (by omega) (by
        have := perm.length_eq
        rw [List.length_append, List.length_range] at this
        omega)
      obtain ⟨j, rfl⟩ := Int.eq_ofNat_of_zero_le d0
      have hj : j < rest.length := by omega
      have pe := pop_ok (i := 3) (me := mCall 2 F__law_draw (mCons (mVar 0) (mCons (mFn gLen (mCons (mVar 3) (mNil))) (mNil)))) (S := ⟨[some (.w .pen), some (.w (.d (.list (intsN (List.range k))))), some (.w (.d (.int 8))), some (.lst (intsN rest)), some (.w (.d d))], some π⟩) (S1 := ⟨[some (.w .pen), some (.w (.d (.list (intsN (List.range k))))), some (.w (.d (.int 8))), some (.lst (intsN rest)), some (.w (.d d))], some π1⟩) (ds := intsN rest) (ds1 := intsN rest) (j := j) (d := .int (rest[j] : Nat)) rfl (by
          walk_at "ks"
          rw [gLen_own (ds := intsN rest) rfl]
          walk_at "ks"
          rw [List.length_map]
          exact e) rfl (by rw [List.getElem?_map, List.getElem?_eq_getElem hj]; rfl) (by
          have := perm.length_eq
          rw [List.length_append, List.length_range] at this
          rw [List.length_map]; omega)
      obtain ⟨found', rest', π', e2, perm2, p2⟩ := ih (found ++ [rest[j]]) (rest.eraseIdx j) π1 (by rw [List.length_eraseIdx]; simp [hj]; omega) p1 (perm_pop perm (List.getElem?_eq_getElem hj))
      refine ⟨found', rest', π', ?_, perm2, p2⟩
      rw [← e2]
      show (mPop 3 (mCall 2 F__law_draw (mCons (mVar 0) (mCons (mFn gLen (mCons (mVar 3) (mNil))) (mNil)))) ⟨[some (.w .pen), some (.w (.d (.list (intsN (List.range k))))), some (.w (.d (.int 8))), some (.lst (intsN rest)), some (.w (.d d))], some π⟩).bindB _ = _
      rw [pe]
      show compSL _ _ _ _ ds (intsN found ++ [.int ((rest[j] : Nat) : Int)]) _ = _
      congr 1
      · simp only [intsN, List.map_append, List.map_cons, List.map_nil]
      · simp only [erase_map, intsN]
        rfl
  unfold F__law_some m__law_some
  walk_at "ks"
  obtain ⟨q, π1, e, d0, d1, p1⟩ := call_draw (u := (if (k : Int) < 8 then (k : Int) else 8) + 1) [some (.w .pen), some (.w (.d (.list (intsN (List.range k))))), some (.w (.d (.int 8))), some (.lst (intsN (List.range k))), none] (n := n + 8) h (by split <;> omega) (by split <;> omega)
  obtain ⟨q, rfl⟩ := Int.eq_ofNat_of_zero_le d0
  have hq : q ≤ k := by
    split at d1 <;> omega
  obtain ⟨found, rest, π', e2, perm, p2⟩ := ind (rngD 0 q) [] (List.range k) π1 (by rw [rngD_len, List.length_range]; exact hq) (p1.mono (by rw [rngD_len]; omega)) (List.Perm.refl _)
  have ec : mCompL (.one 4) [4] (mItR1 (mCall 2 F__law_draw (mCons (mVar 0) (mCons (mBin gAdd (mFn gMin (mCons (mVar 2) (mCons (mFn gLen (mCons (mVar 3) (mNil))) (mNil)))) (mC (.int 1))) (mNil))))) (mYes) (mPop 3 (mCall 2 F__law_draw (mCons (mVar 0) (mCons (mFn gLen (mCons (mVar 3) (mNil))) (mNil))))) ⟨[some (.w .pen), some (.w (.d (.list (intsN (List.range k))))), some (.w (.d (.int 8))), some (.lst (intsN (List.range k))), none], some π⟩ = .ok (.new (intsN found)) ⟨[some (.w .pen), some (.w (.d (.list (intsN (List.range k))))), some (.w (.d (.int 8))), some (.lst (intsN rest)), none], some π'⟩ := by
    have ei : mItR1 (mCall 2 F__law_draw (mCons (mVar 0) (mCons (mBin gAdd (mFn gMin (mCons (mVar 2) (mCons (mFn gLen (mCons (mVar 3) (mNil))) (mNil)))) (mC (.int 1))) (mNil)))) ⟨[some (.w .pen), some (.w (.d (.list (intsN (List.range k))))), some (.w (.d (.int 8))), some (.lst (intsN (List.range k))), none], some π⟩ = .ok (rngD 0 q) ⟨[some (.w .pen), some (.w (.d (.list (intsN (List.range k))))), some (.w (.d (.int 8))), some (.lst (intsN (List.range k))), none], some π1⟩ := by
      walk_at "ks"
      rw [gLen_own (ds := intsN (List.range k)) rfl]
      walk_at "ks"
      rw [List.length_map, List.length_range, e]
      walk_at "ks"
      rw [rg1_ok (by omega)]
      rfl
    unfold mCompL
    rw [ei]
    show (if (noOwn _ [4] && decide ((rngD 0 q).length ≤ 16777215)) = true then fin (compSL _ _ _ _ (rngD 0 q) (intsN []) _) else RE.bad) = _
    rw [decide_eq_true (by rw [rngD_len]; omega), e2]
    rfl
  rw [ec]
  walk_at "ks"
  have nd : (found ++ rest).Nodup := perm.nodup_iff.2 List.nodup_range
  have pl := perm.length_eq
  rw [List.length_append, List.length_range] at pl
  refine ⟨found, π', rfl, (List.nodup_append.1 nd).1, fun x hx => ?_, by omega, p2⟩
  exact List.mem_range.1 (perm.mem_iff.1 (List.mem_append_left _ hx))
/-! ### rings by themselves -/
def ringB (s : Nat) : List (List Bool) := (List.range s).map fun r => (List.range s).map fun c => c == r || c == (r + 1) % s
theorem ring_tbl {s : Nat} (h3 : 3 ≤ s) (h8 : s ≤ 8) : Tbl (ringB s) s := by
  refine ⟨by unfold ringB; rw [List.length_map, List.length_range]; omega, by unfold ringB; rw [List.length_map, List.length_range]; exact h8, by omega, h8, fun r hr => ?_⟩
  obtain ⟨c, _, rfl⟩ := List.mem_map.1 hr
  rw [List.length_map, List.length_range]
theorem ring3 : F__law_ringed [.d (.int 3)] none = .ok (.d (tabD (ringB 3))) none := by kernel_rfl
theorem ring4 : F__law_ringed [.d (.int 4)] none = .ok (.d (tabD (ringB 4))) none := by kernel_rfl
theorem ring5 : F__law_ringed [.d (.int 5)] none = .ok (.d (tabD (ringB 5))) none := by kernel_rfl
theorem ring6 : F__law_ringed [.d (.int 6)] none = .ok (.d (tabD (ringB 6))) none := by kernel_rfl
theorem ring7 : F__law_ringed [.d (.int 7)] none = .ok (.d (tabD (ringB 7))) none := by kernel_rfl
theorem ring8 : F__law_ringed [.d (.int 8)] none = .ok (.d (tabD (ringB 8))) none := by kernel_rfl
theorem ringed_ok {s : Nat} (h3 : 3 ≤ s) (h8 : s ≤ 8) : F__law_ringed [.d (.int (s : Int))] none = .ok (.d (tabD (ringB s))) none := by
  match s, h3, h8 with
  | 3, _, _ => exact ring3
  | 4, _, _ => exact ring4
  | 5, _, _ => exact ring5
  | 6, _, _ => exact ring6
  | 7, _, _ => exact ring7
  | 8, _, _ => exact ring8
end K01

set_option Elab.async false
set_option linter.all false
set_option maxRecDepth 100000
set_option maxHeartbeats 4000000
namespace K01
open PySem PySem.Spec PyProof.Rows L2 Vf
local macro_rules | `(tactic| walk_at "ks") => `(tactic| simp only [kSO, start0, kSM, kSE, kSV, kSP, kSL, kSG, kD, kC, kIt, kCall, kM1, kPar, kSl, kFor, Option.map_some, Option.bind_some, sset_mk, Nat.reduceAdd, Nat.reduceLeDiff, ↓reduceIte, List.map_cons, List.map_nil, List.cons_append, List.nil_append, List.replicate, List.getElem?_cons_zero, List.getElem?_cons_succ, List.set_cons_zero, List.set_cons_succ, List.length_cons, List.length_nil, List.foldr_cons, List.foldr_nil])
theorem with_ok {t : List (List Bool)} {m k c : Nat} {z : Str} (T : Tbl t m) (hk : k < t.length) (hc : c < m) (hz : z.length ≤ 1000) :
    F__law_with [.d (tabD t), .d (.int (k : Int)), .d (.int (c : Int)), .d (.str z)] none = .ok (.d (withD t k (.str (withS (t.getD k []) c z)))) none := by
  have r8 := T.r8
  have m8 := T.m8
  have lr : (t.getD k []).length = m := T.at hk
  have ll : (rowS (t.getD k [])).length = m := by rw [rowS_len, lr]
  unfold F__law_with m__law_with
  walk_at "ks"
  rw [gIxT_row hk]
  walk_at "ks"
  have e1 : ∀ S, gSlT S (.d (tabD t)) none (some (k : Int)) = some (.d (.tuple (rowsD (t.take k)))) := fun S => by
    show some (W.d (.tuple (cutD (rowsD t) none (some (k : Int))))) = _
    rw [cutD_to (by unfold rowsD; rw [List.length_map]; omega)]
    unfold rowsD
    rw [List.map_take]
  have e2 : ∀ S, gSlT S (.d (tabD t)) (some ((k : Int) + 1)) none = some (.d (.tuple (rowsD (t.drop (k + 1))))) := fun S => by
    show some (W.d (.tuple (cutD (rowsD t) (some ((k + 1 : Nat) : Int)) none))) = _
    rw [cutD_from (by unfold rowsD; rw [List.length_map]; omega)]
    unfold rowsD
    rw [List.map_drop]
  rw [e1]
  walk_at "ks"
  rw [gSlS_ok (by omega), cutS_to (by omega)]
  walk_at "ks"
  rw [gCatS_ok (by rw [str_len, List.length_take]; omega)]
  walk_at "ks"
  rw [gSlS_ok (by omega), show ((c : Int) + 1) = ((c + 1 : Nat) : Int) by omega, cutS_from (by omega)]
  walk_at "ks"
  rw [str_cps z, str_app]
  rw [gCatS_ok (by rw [str_len, str_len, List.length_append, List.length_take, List.length_drop]; have : z.cps.toList.length = z.length := by rw [Array.length_toList]; rfl
                   have l2 : (rowS (t.getD k [])).cps.toList.length = m := by rw [Array.length_toList]; exact ll
                   omega), str_app]
  walk_at "ks"
  rw [gCatT_ok (by unfold rowsD; rw [List.length_map, List.length_take, List.length_cons, List.length_nil]; omega)]
  walk_at "ks"
  rw [e2]
  walk_at "ks"
  rw [gCatT_ok (by unfold rowsD; rw [List.length_append, List.length_map, List.length_map, List.length_take, List.length_drop, List.length_cons, List.length_nil]; omega)]
  walk_at "ks"
  congr 1
  unfold withD withS rowS
  simp only [List.map_take, List.map_drop]
theorem with_sign {t : List (List Bool)} {m k c : Nat} (T : Tbl t m) (hk : k < t.length) (hc : c < m) (b : Bool) : ∃ t', withD t k (.str (withS (t.getD k []) c ⟨#[sgc b]⟩)) = tabD t' ∧ Tbl t' m := by
  have lr : (t.getD k []).length = m := T.at hk
  refine ⟨t.take k ++ [(t.getD k []).take c ++ [b] ++ (t.getD k []).drop (c + 1)] ++ t.drop (k + 1), ?_, ?_, ?_, T.m1, T.m8, fun r hr => ?_⟩
  · unfold withD tabD rowsD withS
    simp only [List.map_append, List.map_cons, List.map_nil]
    congr 4
    unfold rowS
    simp
  · simp [List.length_take]; omega
  · have := T.r8
    simp [List.length_take]; omega
  · rcases List.mem_append.1 hr with hr | hr
    · rcases List.mem_append.1 hr with hr | hr
      · exact T.row r (List.mem_of_mem_take hr)
      · rw [List.mem_singleton.1 hr]
        simp only [List.length_append, List.length_take, List.length_cons, List.length_nil, List.length_drop, lr]
        omega
    · exact T.row r (List.mem_of_mem_drop hr)
/-! ### trees and balls -/
theorem gGt_int {S : Sx} {i j : Int} : gGt S (.d (.int i)) (.d (.int j)) = some (.d (.bool (decide (j < i)))) := rfl
theorem steps_ok {tr : List Nat} {a b : Nat} (ht : ∀ k (h : k < tr.length), tr[k] ≤ k) (ha : a ≤ tr.length) (hb : b ≤ tr.length) (hl : tr.length ≤ 1000) :
    ∃ s : Int, F__law_steps [.d (.tuple (intsN tr)), .d (.int (a : Int)), .d (.int (b : Int))] none = .ok (.d (.int s)) none := by
  unfold F__law_steps m__law_steps
  have p1 : mPar3 3 4 5 (mVar 1) (mVar 2) (mC (.int 0)) ⟨[some (.w (.d (.tuple (intsN tr)))), some (.w (.d (.int (a : Int)))), some (.w (.d (.int (b : Int)))), none, none, none, none], none⟩ = .nx ⟨[some (.w (.d (.tuple (intsN tr)))), some (.w (.d (.int (a : Int)))), some (.w (.d (.int (b : Int)))), some (.w (.d (.int (a : Int)))), some (.w (.d (.int (b : Int)))), some (.w (.d (.int 0))), none], none⟩ := rfl
  walk_at "ks"
  rw [p1]
  walk_at "ks"
  rw [gMul_ok (lim_of (by decide)) (lim_of (by rw [List.length_map]; omega))]
  walk_at "ks"
  have er : ∀ S : Sx, RE.of (rg1 (.d (.int (2 * ((intsN tr).length : Int) + 2)))) S = .ok (rngD 0 (2 * tr.length + 2)) S := fun S => by
    have q : (2 * ((intsN tr).length : Int) + 2) = ((2 * tr.length + 2 : Nat) : Int) := by rw [List.length_map]; omega
    rw [q, rg1_ok (by omega)]
    rfl
  rw [er]
  walk_at "ks"
  have step : ∀ (d : PyData) (ds : List PyData) (S : Sx), (∃ (x y : Nat) (s : Int) (o : Option Cell), S = ⟨[some (.w (.d (.tuple (intsN tr)))), some (.w (.d (.int (a : Int)))), some (.w (.d (.int (b : Int)))), some (.w (.d (.int (x : Int)))), some (.w (.d (.int (y : Int)))), some (.w (.d (.int s))), o], none⟩ ∧ x ≤ tr.length ∧ y ≤ tr.length) →
      ∃ S1, bindT (.one 6) S d = some S1 ∧ ((∃ S2, (mSeq (mIfS (mTest (mBin gEq (mVar 3) (mVar 4))) (mRet (mVar 5)) (mSkip))
    (mSeq (mIfS (mTest (mBin gGt (mVar 3) (mVar 4))) (mSet 3 (mBin gIxT (mVar 0) (mBin gSub (mVar 3) (mC (.int 1))))) (mSet 4 (mBin gIxT (mVar 0) (mBin gSub (mVar 4) (mC (.int 1))))))
    (mSet 5 (mBin gAdd (mVar 5) (mC (.int 1)))))) S1 = .nx S2 ∧ (∃ (x y : Nat) (s : Int) (o : Option Cell), S2 = ⟨[some (.w (.d (.tuple (intsN tr)))), some (.w (.d (.int (a : Int)))), some (.w (.d (.int (b : Int)))), some (.w (.d (.int (x : Int)))), some (.w (.d (.int (y : Int)))), some (.w (.d (.int s))), o], none⟩ ∧ x ≤ tr.length ∧ y ≤ tr.length)) ∨ ∃ w S2, (mSeq (mIfS (mTest (mBin gEq (mVar 3) (mVar 4))) (mRet (mVar 5)) (mSkip))
    (mSeq (mIfS (mTest (mBin gGt (mVar 3) (mVar 4))) (mSet 3 (mBin gIxT (mVar 0) (mBin gSub (mVar 3) (mC (.int 1))))) (mSet 4 (mBin gIxT (mVar 0) (mBin gSub (mVar 4) (mC (.int 1))))))
    (mSet 5 (mBin gAdd (mVar 5) (mC (.int 1)))))) S1 = .rt w S2 ∧ (∃ s : Int, w = .d (.int s) ∧ S2.pen = none)) := by
    rintro d ds S ⟨x, y, s, o, rfl, hx, hy⟩
    refine ⟨_, rfl, ?_⟩
    walk_at "ks"
    rw [gEq_int]
    walk_at "ks"
    by_cases h1 : (x : Int) = (y : Int)
    · rw [decide_eq_true h1]
      walk_at "ks"
      exact .inr ⟨_, _, rfl, s, rfl, rfl⟩
    · rw [decide_eq_false h1]
      walk_at "ks"
      by_cases h2 : (y : Int) < (x : Int)
      · rw [decide_eq_true h2]
        walk_at "ks"
        have hx1 : x - 1 < tr.length := by omega
        have e : atI (intsN tr) ((x : Int) - 1) = some (.int (tr[x - 1] : Nat)) := by
          rw [show (x : Int) - 1 = ((x - 1 : Nat) : Int) by omega, atI_nat (by rw [List.length_map]; exact hx1), List.getElem_map]
        rw [e]
        walk_at "ks"
        have := ht (x - 1) hx1
        exact .inl ⟨_, rfl, tr[x - 1], y, _, _, rfl, by omega, hy⟩
      · rw [decide_eq_false h2]
        walk_at "ks"
        have hy1 : y - 1 < tr.length := by omega
        have e : atI (intsN tr) ((y : Int) - 1) = some (.int (tr[y - 1] : Nat)) := by
          rw [show (y : Int) - 1 = ((y - 1 : Nat) : Int) by omega, atI_nat (by rw [List.length_map]; exact hy1), List.getElem_map]
        rw [e]
        walk_at "ks"
        have := ht (y - 1) hy1
        exact .inl ⟨_, rfl, x, tr[y - 1], _, _, rfl, hx, by omega⟩
  rcases loop_ret (t := .one 6) (fun _ S => ∃ (x y : Nat) (s : Int) (o : Option Cell), S = ⟨[some (.w (.d (.tuple (intsN tr)))), some (.w (.d (.int (a : Int)))), some (.w (.d (.int (b : Int)))), some (.w (.d (.int (x : Int)))), some (.w (.d (.int (y : Int)))), some (.w (.d (.int s))), o], none⟩ ∧ x ≤ tr.length ∧ y ≤ tr.length) (fun w S => ∃ s : Int, w = .d (.int s) ∧ S.pen = none) step (rngD 0 (2 * tr.length + 2)) ⟨[some (.w (.d (.tuple (intsN tr)))), some (.w (.d (.int (a : Int)))), some (.w (.d (.int (b : Int)))), some (.w (.d (.int (a : Int)))), some (.w (.d (.int (b : Int)))), some (.w (.d (.int 0))), none], none⟩ ⟨a, b, 0, none, rfl, ha, hb⟩ with ⟨S', e, x, y, s, o, rfl, _, _⟩ | ⟨w, S', e, s, rfl, hp⟩
  · rw [e]
    walk_at "ks"
    exact ⟨s, rfl⟩
  · rw [e]
    walk_at "ks"
    exact ⟨s, rfl⟩
/-- rows of signs, joined -/
theorem sign_if (b : Bool) : (if b then (.str "x" : PyData) else .str ".") = .str ⟨#[sgc b]⟩ := by
  rw [tick_eq, blank_eq]
  cases b <;> rfl
/-- balls as data -/
def IsBall (n : Nat) (d : PyData) : Prop := ∃ (a : Nat) (w : Int), d = .tuple [.int (a : Int), .int w] ∧ a ≤ n
theorem balls_ok {tr : List Nat} {bs : List PyData} (ht : ∀ k (h : k < tr.length), tr[k] ≤ k) (hl : tr.length ≤ 100) (hb : ∀ d ∈ bs, IsBall tr.length d) (lb : bs.length ≤ 1000) :
    ∃ t, F__law_balls [.d (.tuple (intsN tr)), .d (.list bs)] none = .ok (.d (tabD t)) none ∧ t.length = bs.length ∧ ∀ r ∈ t, r.length = tr.length + 1 := by
  unfold F__law_balls m__law_balls
  walk_at "ks"
  obtain ⟨S', e, t, o3, o4, o5, rfl, lt, hr⟩ := loop_inv (t := .two 3 4) (body := mSeq (mSto false 5 (mComp (.one 6) [6] (mItR1 (mBin gAdd (mFn gLen (mCons (mVar 0) (mNil))) (mC (.int 1)))) (mYes) (mIf (mTest (mBin gLe (mCall 3 F__law_steps (mCons (mVar 0) (mCons (mVar 3) (mCons (mVar 6) (mNil))))) (mVar 4))) (mC (.str "x")) (mC (.str ".")))))
    (mAppend 2 (mM1 gJoin (mC (.str "")) (mVar 5))))
    (fun ds S => ∃ (t : List (List Bool)) (o3 o4 o5 : Option Cell), S = ⟨[some (.w (.d (.tuple (intsN tr)))), some (.w (.d (.list bs))), some (.lst (rowsD t)), o3, o4, o5, none], none⟩ ∧ t.length + ds.length = bs.length ∧ (∀ r ∈ t, r.length = tr.length + 1) ∧ ∀ d ∈ ds, IsBall tr.length d)
    (by
      rintro d ds S ⟨t, o3, o4, o5, rfl, lt, hr, hd⟩
      obtain ⟨a, w, rfl, ha⟩ := hd d (List.mem_cons_self ..)
      refine ⟨_, rfl, .inl ?_⟩
      have hs : ∀ c : Nat, c ≤ tr.length → ∃ s : Int, F__law_steps [.d (.tuple (intsN tr)), .d (.int (a : Int)), .d (.int (c : Int))] none = .ok (.d (.int s)) none := fun c hc => steps_ok ht ha hc (by omega)
      obtain ⟨sf, sfe⟩ : ∃ sf : Nat → Int, ∀ c : Nat, c ≤ tr.length → F__law_steps [.d (.tuple (intsN tr)), .d (.int (a : Int)), .d (.int (c : Int))] none = .ok (.d (.int (sf c))) none := by
        refine ⟨fun c => if h : c ≤ tr.length then (hs c h).choose else 0, fun c hc => ?_⟩
        dsimp only
        rw [dif_pos hc]
        exact (hs c hc).choose_spec
      have ec := comp_map (t := .one 6) (vs := [6]) (mi := mItR1 (mBin gAdd (mFn gLen (mCons (mVar 0) (mNil))) (mC (.int 1)))) (me := mIf (mTest (mBin gLe (mCall 3 F__law_steps (mCons (mVar 0) (mCons (mVar 3) (mCons (mVar 6) (mNil))))) (mVar 4))) (mC (.str "x")) (mC (.str ".")))
        (S := ⟨[some (.w (.d (.tuple (intsN tr)))), some (.w (.d (.list bs))), some (.lst (rowsD t)), some (.w (.d (.int (a : Int)))), some (.w (.d (.int w))), o5, none], none⟩) (S1 := ⟨[some (.w (.d (.tuple (intsN tr)))), some (.w (.d (.list bs))), some (.lst (rowsD t)), some (.w (.d (.int (a : Int)))), some (.w (.d (.int w))), o5, none], none⟩)
        (ds := rngD 0 (tr.length + 1)) (f := fun d => .str ⟨#[sgc (decide (sf (natD d) ≤ w))]⟩) (by
          walk_at "ks"
          rw [show ((intsN tr).length : Int) + 1 = ((tr.length + 1 : Nat) : Int) by rw [List.length_map]; omega, rg1_ok (by omega)]
          rfl) rfl (by rw [rngD_len]; omega) (fun d hd => by
          obtain ⟨c, rfl, hc⟩ := mem_rngD hd
          refine mstep rfl ?_
          walk_at "ks"
          rw [call_none (n := 3) (ws := [.d (.tuple (intsN tr)), .d (.int (a : Int)), .d (.int (c : Int))]) (as := [.d (.tuple (intsN tr)), .d (.int (a : Int)), .d (.int (c : Int))]) rfl rfl rfl (sfe c (by omega))]
          walk_at "ks"
          rw [natD_int, ← sign_if]
          cases decide (sf c ≤ w) with
          | true => rfl
          | false => rfl)
      have e5 : mSto false 5 (mComp (.one 6) [6] (mItR1 (mBin gAdd (mFn gLen (mCons (mVar 0) (mNil))) (mC (.int 1)))) (mYes) (mIf (mTest (mBin gLe (mCall 3 F__law_steps (mCons (mVar 0) (mCons (mVar 3) (mCons (mVar 6) (mNil))))) (mVar 4))) (mC (.str "x")) (mC (.str ".")))) ⟨[some (.w (.d (.tuple (intsN tr)))), some (.w (.d (.list bs))), some (.lst (rowsD t)), some (.w (.d (.int (a : Int)))), some (.w (.d (.int w))), o5, none], none⟩ =
          .nx ⟨[some (.w (.d (.tuple (intsN tr)))), some (.w (.d (.list bs))), some (.lst (rowsD t)), some (.w (.d (.int (a : Int)))), some (.w (.d (.int w))), some (.w (.d (.list ((rngD 0 (tr.length + 1)).map fun d => .str ⟨#[sgc (decide (sf (natD d) ≤ w))]⟩)))), none], none⟩ := by
        rw [kSto]
        simp only [kSM, ec]
        simp only [kSE, kSG, kSV, sset_mk, List.length_cons, List.length_nil, Nat.reduceAdd, Nat.reduceLeDiff, ↓reduceIte, List.set_cons_zero, List.set_cons_succ]
      have ej : mM1 gJoin (mC (.str "")) (mVar 5) ⟨[some (.w (.d (.tuple (intsN tr)))), some (.w (.d (.list bs))), some (.lst (rowsD t)), some (.w (.d (.int (a : Int)))), some (.w (.d (.int w))), some (.w (.d (.list ((rngD 0 (tr.length + 1)).map fun d => .str ⟨#[sgc (decide (sf (natD d) ≤ w))]⟩)))), none], none⟩ =
          .ok (.d (.str (rowS ((List.range (tr.length + 1)).map fun c => decide (sf c ≤ w))))) ⟨[some (.w (.d (.tuple (intsN tr)))), some (.w (.d (.list bs))), some (.lst (rowsD t)), some (.w (.d (.int (a : Int)))), some (.w (.d (.int w))), some (.w (.d (.list ((rngD 0 (tr.length + 1)).map fun d => .str ⟨#[sgc (decide (sf (natD d) ≤ w))]⟩)))), none], none⟩ := by
        walk_at "ks"
        rw [gJoin_signs (cs := (List.range (tr.length + 1)).map fun c => sgc (decide (sf c ≤ w))) (by
          refine congrArg some ?_
          unfold rngD
          rw [List.map_map, List.map_map]
          refine List.map_congr_left fun c _ => ?_
          simp only [Function.comp_def, Int.zero_add, natD_int]
          rfl) (by rw [List.length_map, List.length_range]; omega)]
        walk_at "ks"
        simp only [rowS, List.map_map, Function.comp_def]
      refine ⟨_, ?_, t ++ [(List.range (tr.length + 1)).map fun c => decide (sf c ≤ w)], some (.w (.d (.int (a : Int)))), some (.w (.d (.int w))), some (.w (.d (.list ((rngD 0 (tr.length + 1)).map fun d => .str ⟨#[sgc (decide (sf (natD d) ≤ w))]⟩)))), rfl, ?_, ?_, fun d' hd' => hd d' (List.mem_cons_of_mem _ hd')⟩
      · have ei : sset (sset ⟨[some (.w (.d (.tuple (intsN tr)))), some (.w (.d (.list bs))), some (.lst (rowsD t)), o3, o4, o5, none], none⟩ 3 (.w (.d (.int (a : Int))))) 4 (.w (.d (.int w))) = ⟨[some (.w (.d (.tuple (intsN tr)))), some (.w (.d (.list bs))), some (.lst (rowsD t)), some (.w (.d (.int (a : Int)))), some (.w (.d (.int w))), o5, none], none⟩ := rfl
        rw [ei]
        simp only [kSM]
        rw [e5]
        simp only [kSM]
        rw [app_ok (ds := rowsD t) (ds1 := rowsD t) rfl ej rfl rfl (by unfold rowsD; rw [List.length_map]; omega)]
        unfold rowsD
        rw [List.map_append]
        rfl
      · rw [List.length_append, List.length_cons, List.length_nil]; rw [List.length_cons] at lt; omega
      · intro r hr'
        rcases List.mem_append.1 hr' with q | q
        · exact hr r q
        · rw [List.mem_singleton.1 q, List.length_map, List.length_range])
    bs ⟨[some (.w (.d (.tuple (intsN tr)))), some (.w (.d (.list bs))), some (.lst []), none, none, none, none], none⟩ ⟨[], none, none, none, rfl, by simp, by simp, hb⟩
  rw [e]
  walk_at "ks"
  have eg : ∀ S : Sx, olist S 2 = some (rowsD t) → gTuple S [.own 2] = some (.d (.tuple (rowsD t))) := fun S h => by
    show (match wt (.own 2) with
      | some ds => some (W.d (.tuple ds))
      | none => (lview S (.own 2)).map fun ds => W.d (.tuple ds)) = _
    show (lview S (.own 2)).map _ = _
    rw [lview_own, h]
    rfl
  rw [eg _ rfl]
  walk_at "ks"
  exact ⟨t, rfl, by simpa using lt, hr.1⟩
end K01

set_option Elab.async false
set_option linter.all false
set_option maxRecDepth 100000
set_option maxHeartbeats 4000000
namespace K01
open PySem PySem.Spec PyProof.Rows L2 Vf
local macro_rules | `(tactic| walk_at "ks") => `(tactic| simp only [kSO, start0, kSM, kSE, kSV, kSP, kSL, kSG, kD, kC, kIt, kCall, kM1, kPar, kSl, kFor, kSto, kTS, or_self, Option.map_some, Option.bind_some, sset_mk, Nat.reduceAdd, Nat.reduceLeDiff, ↓reduceIte, List.map_cons, List.map_nil, List.cons_append, List.nil_append, List.replicate, List.getElem?_cons_zero, List.getElem?_cons_succ, List.set_cons_zero, List.set_cons_succ, List.length_cons, List.length_nil, List.foldr_cons, List.foldr_nil])
theorem drawR {rho : List (Option Cell)} {π π' : Pen} {u d : Int} (e : F__law_draw [.pen, .d (.int u)] (some π) = .ok (.d (.int d)) (some π')) : callF 2 F__law_draw ⟨rho, some π⟩ [.pen, .d (.int u)] = .ok (.d (.int d)) ⟨rho, some π'⟩ :=
  call_pen (n := 2) (ws := [.pen, .d (.int u)]) (as := [.pen, .d (.int u)]) rfl rfl rfl e
theorem draw_nat {n : Nat} {π : Pen} {u : Nat} (h : PenOk (n + 1) π) (hu : 0 < u) (hu2 : u < 1000) : ∃ (d : Nat) (π' : Pen), F__law_draw [.pen, .d (.int (u : Int))] (some π) = .ok (.d (.int (d : Int))) (some π') ∧ d < u ∧ PenOk n π' := by
  obtain ⟨d, π', e, d0, d1, p⟩ := draw_ok (u := (u : Int)) h (by omega) (by omega)
  obtain ⟨k, rfl⟩ := Int.eq_ofNat_of_zero_le d0
  exact ⟨k, π', e, by omega, p⟩
/-- the state behind the roads -/
def Mid (most R C r th : Int) (n : Nat) (S : Sx) : Prop := ∃ (t : List (List Bool)) (m : Nat) (π : Pen) (o7 o8 o9 o10 o11 o12 o13 o14 o15 o16 : Option Cell), S = ⟨[some (.w .pen), some (.w (.d (.int most))), some (.w (.d (.int R))), some (.w (.d (.int C))), some (.w (.d (.int r))), some (.w (.d (.int th))), some (.w (.d (tabD t))), o7, o8, o9, o10, o11, o12, o13, o14, o15, o16], some π⟩ ∧ Tbl t m ∧ PenOk n π
abbrev st0 (most R C r th : Int) (o6 o7 o8 o9 o10 o11 o12 o13 o14 o15 o16 : Option Cell) (π : Pen) : Sx := ⟨[some (.w .pen), some (.w (.d (.int most))), some (.w (.d (.int R))), some (.w (.d (.int C))), some (.w (.d (.int r))), some (.w (.d (.int th))), o6, o7, o8, o9, o10, o11, o12, o13, o14, o15, o16], some π⟩
theorem road_ring {n : Nat} {π : Pen} {most : Nat} {R C r th : Int} (h3 : 3 ≤ most) (h8 : most ≤ 8) (h : PenOk (n + 100) π) : ∃ S', (mSeq (mSet 6 (mCall 1 F__law_ringed (mCons (mBin gAdd (mC (.int 3)) (mCall 2 F__law_draw (mCons (mVar 0) (mCons (mBin gSub (mVar 1) (mC (.int 2))) (mNil))))) (mNil))))
    (mFor (.one 7) (mItR1 (mCall 2 F__law_draw (mCons (mVar 0) (mCons (mC (.int 3)) (mNil))))) (mSeq (mPar false false 9 10 (mCall 2 F__law_draw (mCons (mVar 0) (mCons (mFn gLen (mCons (mVar 6) (mNil))) (mNil)))) (mCall 2 F__law_draw (mCons (mVar 0) (mCons (mFn gLen (mCons (mVar 6) (mNil))) (mNil)))))
    (mSet 6 (mCall 4 F__law_with (mCons (mVar 6) (mCons (mVar 9) (mCons (mVar 10) (mCons (mBin gIxS (mC (.str "x.")) (mCall 2 F__law_draw (mCons (mVar 0) (mCons (mC (.int 2)) (mNil))))) (mNil)))))))))) (st0 most R C r th none none none none none none none none none none none π) = .nx S' ∧ Mid most R C r th n S' := by
  obtain ⟨q, π1, e1, q1, p1⟩ := draw_nat (u := most - 2) (n := n + 99) h (by omega) (by omega)
  obtain ⟨l, π2, e2, l1, p2⟩ := draw_nat (u := 3) (n := n + 98) p1 (by omega) (by omega)
  replace e2 : F__law_draw [.pen, .d (.int 3)] (some π1) = .ok (.d (.int (l : Int))) (some π2) := e2
  rw [show ((most - 2 : Nat) : Int) = (most : Int) - 2 by omega] at e1
  walk_at "ks"
  rw [drawR e1]
  walk_at "ks"
  rw [show (3 : Int) + (q : Int) = ((3 + q : Nat) : Int) by omega, call_none (n := 1) (ws := [.d (.int ((3 + q : Nat) : Int))]) (as := [.d (.int ((3 + q : Nat) : Int))]) rfl rfl rfl (ringed_ok (s := 3 + q) (by omega) (by omega))]
  walk_at "ks"
  rw [drawR e2]
  walk_at "ks"
  rw [rg1_ok (by omega)]
  walk_at "ks"
  have T0 := ring_tbl (s := 3 + q) (by omega) (by omega)
  have L0 : (ringB (3 + q)).length = 3 + q := by unfold ringB; rw [List.length_map, List.length_range]
  obtain ⟨S', e, t, π', o7, o9, o10, rfl, T, lt, p⟩ := loop_inv (t := .one 7) (body := (mSeq (mPar false false 9 10 (mCall 2 F__law_draw (mCons (mVar 0) (mCons (mFn gLen (mCons (mVar 6) (mNil))) (mNil)))) (mCall 2 F__law_draw (mCons (mVar 0) (mCons (mFn gLen (mCons (mVar 6) (mNil))) (mNil)))))
    (mSet 6 (mCall 4 F__law_with (mCons (mVar 6) (mCons (mVar 9) (mCons (mVar 10) (mCons (mBin gIxS (mC (.str "x.")) (mCall 2 F__law_draw (mCons (mVar 0) (mCons (mC (.int 2)) (mNil))))) (mNil)))))))))
    (fun ds S => ∃ (t : List (List Bool)) (π : Pen) (o7 o9 o10 : Option Cell), S = st0 most R C r th (some (.w (.d (tabD t)))) o7 none o9 o10 none none none none none none π ∧ Tbl t (3 + q) ∧ t.length = 3 + q ∧ PenOk (n + 3 * ds.length) π)
    (by
      rintro d ds S ⟨t, π, o7, o9, o10, rfl, T, lt, p⟩
      rw [List.length_cons] at p
      obtain ⟨x, π1, e1, x1, p1⟩ := draw_nat (u := t.length) (n := n + 3 * ds.length + 2) (p.mono (by omega)) (by omega) (by omega)
      obtain ⟨y, π2, e2, y1, p2⟩ := draw_nat (u := t.length) (n := n + 3 * ds.length + 1) p1 (by omega) (by omega)
      obtain ⟨z, π3, e3, z1, p3⟩ := draw_nat (u := 2) (n := n + 3 * ds.length) p2 (by omega) (by omega)
      replace e3 : F__law_draw [.pen, .d (.int 2)] (some π2) = .ok (.d (.int (z : Int))) (some π3) := e3
      obtain ⟨t', et, T'⟩ := with_sign (k := x) (c := y) T x1 (by omega) (z == 0)
      refine ⟨_, rfl, .inl ?_⟩
      walk_at "ks"
      rw [gLen_tab]
      walk_at "ks"
      rw [drawR e1]
      walk_at "ks"
      rw [gLen_tab]
      walk_at "ks"
      rw [drawR e2]
      walk_at "ks"
      rw [drawR e3]
      walk_at "ks"
      rw [gIxS_xd z1]
      walk_at "ks"
      rw [call_none (n := 4) (ws := [.d (tabD t), .d (.int (x : Int)), .d (.int (y : Int)), .d (.str ⟨#[sgc (z == 0)]⟩)]) (as := [.d (tabD t), .d (.int (x : Int)), .d (.int (y : Int)), .d (.str ⟨#[sgc (z == 0)]⟩)]) rfl rfl rfl (with_ok T x1 (by omega) (by show (1 : Nat) ≤ 1000; omega)), et]
      walk_at "ks"
      refine ⟨_, rfl, t', π3, some (.w (.d d)), some (.w (.d (.int (x : Int)))), some (.w (.d (.int (y : Int)))), rfl, T', ?_, p3⟩
      have := congrArg (fun d => match d with
        | PyData.tuple ds => ds.length
        | _ => 0) et
      simp only [withD, tabD, rowsD, List.length_append, List.length_map, List.length_take, List.length_drop, List.length_cons, List.length_nil] at this
      omega)
    (rngD 0 l) (st0 most R C r th (some (.w (.d (tabD (ringB (3 + q)))))) none none none none none none none none none none π2) ⟨ringB (3 + q), π2, none, none, none, rfl, T0, L0, p2.mono (by rw [rngD_len]; omega)⟩
  exact ⟨_, e, t, 3 + q, π', _, _, _, _, _, _, _, _, _, _, rfl, T, p.mono (by omega)⟩
theorem tree_of {xs : List PyData} {k : Nat} (h : All2 (fun d x => ∃ a c : Nat, d = .int (a : Int) ∧ x = .int (c : Int) ∧ c ≤ a) (rngD 0 k) xs) : ∃ tr : List Nat, xs = intsN tr ∧ tr.length = k ∧ ∀ i (h : i < tr.length), tr[i] ≤ i := by
  obtain ⟨tr, rfl⟩ := nats_of fun x hx => by
    obtain ⟨d, _, a, c, _, e, _⟩ := h.mem x hx
    exact ⟨c, e⟩
  have hl := h.length
  rw [List.length_map, rngD_len] at hl
  refine ⟨tr, rfl, hl, fun i hi => ?_⟩
  obtain ⟨a, c, e1, e2, hc⟩ := h.at i (.int (i : Int)) (.int ((tr[i] : Nat) : Int)) (by
    unfold rngD
    rw [List.getElem?_map, List.getElem?_range (by omega), Option.map_some, Int.zero_add]) (by rw [List.getElem?_map, List.getElem?_eq_getElem hi]; rfl)
  injection e1 with e1
  injection e2 with e2
  omega
theorem road_balls {n : Nat} {π : Pen} {most R C : Nat} {r th : Int} (hR : 1 ≤ R) (hR8 : R ≤ 8) (hC : 1 ≤ C) (hC8 : C ≤ 8) (h : PenOk (n + 100) π) : ∃ S', (mSeq (mSet 8 (mFn gTuple (mCons (mComp (.one 12) [12] (mItR1 (mBin gSub (mVar 3) (mC (.int 1)))) (mYes) (mCall 2 F__law_draw (mCons (mVar 0) (mCons (mBin gAdd (mVar 12) (mC (.int 1))) (mNil))))) (mNil))))
    (mSet 6 (mCall 2 F__law_balls (mCons (mVar 8) (mCons (mComp (.one 9) [9] (mItR1 (mVar 2)) (mYes) (mTup (mCons (mCall 2 F__law_draw (mCons (mVar 0) (mCons (mVar 3) (mNil)))) (mCons (mCall 2 F__law_draw (mCons (mVar 0) (mCons (mC (.int 4)) (mNil)))) (mNil))))) (mNil)))))) (st0 (most : Int) (R : Int) (C : Int) r th none none none none none none none none none none none π) = .nx S' ∧ Mid most R C r th n S' := by
  obtain ⟨xs, π1, e1, A1, p1⟩ := comp_pen (t := .one 12) (vs := [12]) (mi := mItR1 (mBin gSub (mVar 3) (mC (.int 1)))) (me := mCall 2 F__law_draw (mCons (mVar 0) (mCons (mBin gAdd (mVar 12) (mC (.int 1))) (mNil)))) (S := st0 (most : Int) (R : Int) (C : Int) r th none none none none none none none none none none none π)
    (rho := (st0 (most : Int) (R : Int) (C : Int) r th none none none none none none none none none none none π).rho) (π := π) (ds := rngD 0 (C - 1)) (R := fun d x => ∃ a c : Nat, d = .int (a : Int) ∧ x = .int (c : Int) ∧ c ≤ a) (n := n + 50) (c := 1) (by
      walk_at "ks"
      rw [show (C : Int) - 1 = ((C - 1 : Nat) : Int) by omega, rg1_ok (by omega)]
      rfl) rfl (by rw [rngD_len]; omega) (h.mono (by rw [rngD_len]; omega)) (fun d hd => by
      obtain ⟨c, rfl, hc⟩ := mem_rngD hd
      refine pstep fun k π hp => ?_
      obtain ⟨q, π1, e1, q1, p1⟩ := draw_nat (u := c + 1) (n := k) hp (by omega) (by omega)
      refine ⟨_, rfl, .int (q : Int), π1, ⟨c, q, rfl, rfl, by omega⟩, p1, ?_⟩
      walk_at "ks"
      rw [show (c : Int) + 1 = ((c + 1 : Nat) : Int) by omega, drawR e1]
      exact ⟨_, rfl⟩)
  obtain ⟨tr, rfl, ltr, htr⟩ := tree_of A1
  walk_at "ks"
  rw [e1]
  walk_at "ks"
  rw [gTuple_new]
  walk_at "ks"
  obtain ⟨ys, π2, e2, A2, p2⟩ := comp_pen (t := .one 9) (vs := [9]) (mi := mItR1 (mVar 2)) (me := mTup (mCons (mCall 2 F__law_draw (mCons (mVar 0) (mCons (mVar 3) (mNil)))) (mCons (mCall 2 F__law_draw (mCons (mVar 0) (mCons (mC (.int 4)) (mNil)))) (mNil)))) (S := st0 (most : Int) (R : Int) (C : Int) r th none none (some (.w (.d (.tuple (intsN tr))))) none none none none none none none none π1)
    (rho := (st0 (most : Int) (R : Int) (C : Int) r th none none (some (.w (.d (.tuple (intsN tr))))) none none none none none none none none π1).rho) (π := π1) (ds := rngD 0 R) (R := fun _ x => IsBall tr.length x) (n := n) (c := 2) (by
      walk_at "ks"
      rw [rg1_ok (by omega)]
      rfl) rfl (by rw [rngD_len]; omega) (p1.mono (by rw [rngD_len]; omega)) (fun d hd => by
      refine pstep fun k π hp => ?_
      obtain ⟨q, π1, e1, q1, p1⟩ := draw_nat (u := C) (n := k + 1) hp (by omega) (by omega)
      obtain ⟨v, π2, e2, v1, p2⟩ := draw_nat (u := 4) (n := k) p1 (by omega) (by omega)
      replace e2 : F__law_draw [.pen, .d (.int 4)] (some π1) = .ok (.d (.int (v : Int))) (some π2) := e2
      refine ⟨_, rfl, .tuple [.int (q : Int), .int (v : Int)], π2, ⟨q, v, rfl, by omega⟩, p2, ?_⟩
      walk_at "ks"
      rw [drawR e1]
      walk_at "ks"
      rw [drawR e2]
      walk_at "ks"
      exact ⟨_, rfl⟩)
  rw [e2]
  have ly := A2.length
  rw [rngD_len] at ly
  obtain ⟨t, e3, lt, ht⟩ := balls_ok (tr := tr) (bs := ys) htr (by omega) (fun d hd => by obtain ⟨_, _, q⟩ := A2.mem d hd; exact q) (by omega)
  walk_at "ks"
  rw [call_none (n := 2) (ws := [.d (.tuple (intsN tr)), .new ys]) (as := [.d (.tuple (intsN tr)), .d (.list ys)]) rfl rfl rfl e3]
  walk_at "ks"
  exact ⟨_, rfl, t, C, π2, _, _, _, _, _, _, _, _, _, _, rfl, ⟨by omega, by omega, hC, hC8, fun x hx => by rw [ht x hx]; omega⟩, p2⟩
theorem road_free {n : Nat} {π : Pen} {most R C th : Nat} {r : Int} (hR : 1 ≤ R) (hR8 : R ≤ 8) (hC : 1 ≤ C) (hC8 : C ≤ 8) (ht : 1 ≤ th) (ht8 : th ≤ 8) (h : PenOk (n + 100) π) : ∃ S', mSet 6 (mFn gTuple (mCons (mComp (.one 9) [9] (mItR1 (mVar 2)) (mYes) (mM1 gJoin (mC (.str "")) (mComp (.one 15) [15] (mItR1 (mVar 3)) (mYes) (mBin gIxS (mC (.str ".x")) (mFn gMin (mCons (mC (.int 1)) (mCons (mCall 2 F__law_draw (mCons (mVar 0) (mCons (mVar 5) (mNil)))) (mNil)))))))) (mNil)))
    (st0 (most : Int) (R : Int) (C : Int) r (th : Int) none none none none none none none none none none none π) = .nx S' ∧ Mid most R C r th n S' := by
  obtain ⟨xs, π1, e1, A1, p1⟩ := comp_pen (t := .one 9) (vs := [9]) (mi := mItR1 (mVar 2)) (me := mM1 gJoin (mC (.str "")) (mComp (.one 15) [15] (mItR1 (mVar 3)) (mYes) (mBin gIxS (mC (.str ".x")) (mFn gMin (mCons (mC (.int 1)) (mCons (mCall 2 F__law_draw (mCons (mVar 0) (mCons (mVar 5) (mNil)))) (mNil))))))) (S := st0 (most : Int) (R : Int) (C : Int) r (th : Int) none none none none none none none none none none none π)
    (rho := (st0 (most : Int) (R : Int) (C : Int) r (th : Int) none none none none none none none none none none none π).rho) (π := π) (ds := rngD 0 R) (R := fun _ x => IsRowN C x) (n := n) (c := 8) (by
      walk_at "ks"
      rw [rg1_ok (by omega)]
      rfl) rfl (by rw [rngD_len]; omega) (h.mono (by rw [rngD_len]; omega)) (fun d hd => by
      refine pstep fun k π hp => ?_
      obtain ⟨ys, π1, e1, A1, p1⟩ := comp_pen (t := .one 15) (vs := [15]) (mi := mItR1 (mVar 3)) (me := mBin gIxS (mC (.str ".x")) (mFn gMin (mCons (mC (.int 1)) (mCons (mCall 2 F__law_draw (mCons (mVar 0) (mCons (mVar 5) (mNil)))) (mNil))))) (S := st0 (most : Int) (R : Int) (C : Int) r (th : Int) none none none (some (.w (.d d))) none none none none none none none π)
        (rho := (st0 (most : Int) (R : Int) (C : Int) r (th : Int) none none none (some (.w (.d d))) none none none none none none none π).rho) (π := π) (ds := rngD 0 C) (R := fun _ x => IsSg x) (n := k) (c := 1) (by
          walk_at "ks"
          rw [rg1_ok (by omega)]
          rfl) rfl (by rw [rngD_len]; omega) (hp.mono (by rw [rngD_len]; omega)) (fun d' hd' => by
          refine pstep fun k π hp => ?_
          obtain ⟨q, π1, e1, q1, p1⟩ := draw_nat (u := th) (n := k) hp (by omega) (by omega)
          refine ⟨_, rfl, .str ⟨#[sgc (!(q == 0))]⟩, π1, ⟨_, rfl⟩, p1, ?_⟩
          walk_at "ks"
          rw [drawR e1]
          walk_at "ks"
          rw [gIxS_dx]
          exact ⟨_, rfl⟩)
      obtain ⟨rw', ey, ly⟩ := signs_rows fun x hx => by obtain ⟨_, _, q⟩ := A1.mem x hx; exact q
      have l1 := A1.length
      rw [rngD_len] at l1
      refine ⟨_, rfl, .str (rowS rw'), π1, ⟨rw', rfl, by omega⟩, p1, ?_⟩
      walk_at "ks"
      rw [e1]
      walk_at "ks"
      rw [gJoin_signs (cs := rw'.map sgc) (by rw [ey]; rfl) (by rw [List.length_map]; omega)]
      exact ⟨_, rfl⟩)
  obtain ⟨t, rfl, lt, hr⟩ := rows_tab fun x hx => by obtain ⟨_, _, q⟩ := A1.mem x hx; exact q
  have l1 := A1.length
  rw [rngD_len] at l1
  walk_at "ks"
  rw [e1]
  walk_at "ks"
  rw [gTuple_new]
  walk_at "ks"
  exact ⟨_, rfl, t, C, π1, _, _, _, _, _, _, _, _, _, _, rfl, ⟨by omega, by omega, hC, hC8, hr⟩, p1⟩
def rowAB (C : Nat) (a b : Int) : List Bool := (List.range C).map fun (c : Nat) => decide (a ≤ (c : Int)) && decide ((c : Int) < b)
def pairRow (C : Nat) : PyData → PyData
  | .tuple [.int a, .int b] => .str (rowS (rowAB C a b))
  | _ => .none
theorem road_ends {n : Nat} {π : Pen} {most R C : Nat} {r th : Int} (hR : 1 ≤ R) (hR8 : R ≤ 8) (hC : 1 ≤ C) (hC8 : C ≤ 8) (h : PenOk (n + 100) π) : ∃ S', (mSeq (mSto false 11 (mComp (.one 9) [9] (mItR1 (mVar 2)) (mYes) (mTup (mCons (mCall 2 F__law_draw (mCons (mVar 0) (mCons (mVar 3) (mNil)))) (mCons (mCall 2 F__law_draw (mCons (mVar 0) (mCons (mBin gAdd (mVar 3) (mC (.int 1))) (mNil)))) (mNil))))))
    (mSet 6 (mFn gTuple (mCons (mComp (.two 13 14) [13, 14] (mItL (mVar 11)) (mYes) (mM1 gJoin (mC (.str "")) (mComp (.one 15) [15] (mItR1 (mVar 3)) (mYes) (mIf (mTest (mChain gLe gLt (mVar 13) (mVar 15) (mVar 14))) (mC (.str "x")) (mC (.str ".")))))) (mNil)))))
    (st0 (most : Int) (R : Int) (C : Int) r th none none none none none none none none none none none π) = .nx S' ∧ Mid most R C r th n S' := by
  obtain ⟨xs, π1, e1, A1, p1⟩ := comp_pen (t := .one 9) (vs := [9]) (mi := mItR1 (mVar 2)) (me := mTup (mCons (mCall 2 F__law_draw (mCons (mVar 0) (mCons (mVar 3) (mNil)))) (mCons (mCall 2 F__law_draw (mCons (mVar 0) (mCons (mBin gAdd (mVar 3) (mC (.int 1))) (mNil)))) (mNil)))) (S := st0 (most : Int) (R : Int) (C : Int) r th none none none none none none none none none none none π)
    (rho := (st0 (most : Int) (R : Int) (C : Int) r th none none none none none none none none none none none π).rho) (π := π) (ds := rngD 0 R) (R := fun _ x => ∃ a b : Int, x = .tuple [.int a, .int b]) (n := n) (c := 2) (by
      walk_at "ks"
      rw [rg1_ok (by omega)]
      rfl) rfl (by rw [rngD_len]; omega) (h.mono (by rw [rngD_len]; omega)) (fun d hd => by
      refine pstep fun k π hp => ?_
      obtain ⟨q, π1, e1, q1, p1⟩ := draw_nat (u := C) (n := k + 1) hp (by omega) (by omega)
      obtain ⟨v, π2, e2, v1, p2⟩ := draw_nat (u := C + 1) (n := k) p1 (by omega) (by omega)
      refine ⟨_, rfl, .tuple [.int (q : Int), .int (v : Int)], π2, ⟨_, _, rfl⟩, p2, ?_⟩
      walk_at "ks"
      rw [drawR e1]
      walk_at "ks"
      rw [show (C : Int) + 1 = ((C + 1 : Nat) : Int) by omega, drawR e2]
      walk_at "ks"
      exact ⟨_, rfl⟩)
  have l1 := A1.length
  rw [rngD_len] at l1
  walk_at "ks"
  rw [e1]
  walk_at "ks"
  have e2 := comp_map (t := .two 13 14) (vs := [13, 14]) (mi := mItL (mVar 11)) (me := mM1 gJoin (mC (.str "")) (mComp (.one 15) [15] (mItR1 (mVar 3)) (mYes) (mIf (mTest (mChain gLe gLt (mVar 13) (mVar 15) (mVar 14))) (mC (.str "x")) (mC (.str "."))))) (S := st0 (most : Int) (R : Int) (C : Int) r th none none none none none (some (.w (.d (.list xs)))) none none none none none π1) (S1 := st0 (most : Int) (R : Int) (C : Int) r th none none none none none (some (.w (.d (.list xs)))) none none none none none π1) (ds := xs)
    (f := pairRow C) (by walk_at "ks") rfl (by omega) (fun d hd => by
      obtain ⟨_, _, a, b, rfl⟩ := A1.mem d hd
      refine mstep rfl ?_
      walk_at "ks"
      rw [comp_map (S := st0 (most : Int) (R : Int) (C : Int) r th none none none none none (some (.w (.d (.list xs)))) none (some (.w (.d (.int a)))) (some (.w (.d (.int b)))) none none π1) (S1 := st0 (most : Int) (R : Int) (C : Int) r th none none none none none (some (.w (.d (.list xs)))) none (some (.w (.d (.int a)))) (some (.w (.d (.int b)))) none none π1) (ds := rngD 0 C) (f := fun d => .str ⟨#[sgc (decide (a ≤ (natD d : Int)) && decide ((natD d : Int) < b))]⟩) (by
          walk_at "ks"
          rw [rg1_ok (by omega)]
          rfl) rfl (by rw [rngD_len]; omega) (fun d hd => by
          obtain ⟨c, rfl, hc⟩ := mem_rngD hd
          refine mstep rfl ?_
          walk_at "ks"
          rw [natD_int, ← sign_if]
          by_cases q : a ≤ (c : Int)
          · rw [decide_eq_true q]
            walk_at "ks"
            rw [Bool.true_and]
            cases decide ((c : Int) < b) <;> rfl
          · rw [decide_eq_false q]
            rfl)]
      walk_at "ks"
      rw [gJoin_signs (cs := (List.range C).map fun (c : Nat) => sgc (decide (a ≤ (c : Int)) && decide ((c : Int) < b))) (by
          refine congrArg some ?_
          unfold rngD
          rw [List.map_map, List.map_map]
          refine List.map_congr_left fun c _ => ?_
          simp only [Function.comp_def, Int.zero_add, natD_int]
          rfl) (by rw [List.length_map, List.length_range]; omega)]
      walk_at "ks"
      simp only [pairRow, rowAB, rowS, List.map_map, Function.comp_def])
  rw [e2]
  walk_at "ks"
  rw [gTuple_new]
  walk_at "ks"
  obtain ⟨t, et, lt, hr⟩ := rows_tab (m := C) (xs := xs.map (pairRow C)) fun x hx => by
    obtain ⟨d, hd, rfl⟩ := List.mem_map.1 hx
    obtain ⟨_, _, a, b, rfl⟩ := A1.mem d hd
    exact ⟨rowAB C a b, rfl, by unfold rowAB; rw [List.length_map, List.length_range]⟩
  rw [List.length_map] at lt
  rw [et]
  exact ⟨_, rfl, t, C, π1, _, _, _, _, _, _, _, _, _, _, rfl, ⟨by omega, by omega, hC, hC8, hr⟩, p1⟩
end K01

set_option Elab.async false
set_option linter.all false
set_option maxRecDepth 100000
set_option maxHeartbeats 4000000
namespace K01
open PySem PySem.Spec PyProof.Rows L2 Vf
local macro_rules | `(tactic| walk_at "ks") => `(tactic| simp only [kSO, start0, kSM, kSE, kSV, kSP, kSL, kSG, kD, kC, kIt, kCall, kM1, kPar, kSl, kFor, kSto, kTS, or_self, Option.map_some, Option.bind_some, sset_mk, Nat.reduceAdd, Nat.reduceLeDiff, ↓reduceIte, List.map_cons, List.map_nil, List.cons_append, List.nil_append, List.replicate, List.getElem?_cons_zero, List.getElem?_cons_succ, List.set_cons_zero, List.set_cons_succ, List.length_cons, List.length_nil, List.foldr_cons, List.foldr_nil])
theorem ifK_t (m1 m2 : MS) (S : Sx) : ifK m1 m2 true S = m1 S := Eq.trans (Eq.refl _) (Eq.refl _)
theorem ifK_f (m1 m2 : MS) (S : Sx) : ifK m1 m2 false S = m2 S := Eq.trans (Eq.refl _) (Eq.refl _)
theorem part_tbl {t : List (List Bool)} {m : Nat} {rs cs : List Nat} (T : Tbl t m) (pr : rs.Perm (List.range t.length)) (pc : cs.Perm (List.range m)) : Tbl (partB t rs cs) m := by
  have lr := pr.length_eq
  have lc := pc.length_eq
  rw [List.length_range] at lr lc
  refine ⟨by unfold partB; rw [List.length_map, lr]; exact T.r1, by unfold partB; rw [List.length_map, lr]; exact T.r8, T.m1, T.m8, fun r hr => ?_⟩
  obtain ⟨x, _, rfl⟩ := List.mem_map.1 hr
  rw [List.length_map, lc]
theorem table_draw {n : Nat} {π : Pen} {most : Nat} (h3 : 3 ≤ most) (h8 : most ≤ 8) (h : PenOk (n + 1000) π) : ∃ t m π', F__law_table [.pen, .d (.int (most : Int))] (some π) = .ok (.d (tabD t)) (some π') ∧ Tbl t m ∧ PenOk n π' := by
  obtain ⟨a, π1, e1, a1, p1⟩ := draw_nat (u := most) (n := n + 999) h (by omega) (by omega)
  obtain ⟨b, π2, e2, b1, p2⟩ := draw_nat (u := most) (n := n + 998) p1 (by omega) (by omega)
  obtain ⟨r, π3, e3, r1, p3⟩ := draw_nat (u := 8) (n := n + 997) p2 (by omega) (by omega)
  obtain ⟨k, π4, e4, k1, p4⟩ := draw_nat (u := 3) (n := n + 996) p3 (by omega) (by omega)
  replace e3 : F__law_draw [.pen, .d (.int 8)] (some π2) = .ok (.d (.int (r : Int))) (some π3) := e3
  replace e4 : F__law_draw [.pen, .d (.int 3)] (some π3) = .ok (.d (.int (k : Int))) (some π4) := e4
  unfold F__law_table m__law_table
  have tail : ∀ S : Sx, Mid (most : Int) ((1 + a : Nat) : Int) ((1 + b : Nat) : Int) (r : Int) ((2 + k : Nat) : Int) (n + 100) S → ∃ t m π', outF (some π) ((mSeq (mSet 16 (mCall 2 F__law_shuffled (mCons (mVar 0) (mCons (mLstR (mFn gLen (mCons (mVar 6) (mNil)))) (mNil)))))
    (mRet (mCall 3 F__law_part (mCons (mVar 6) (mCons (mVar 16) (mCons (mCall 2 F__law_shuffled (mCons (mVar 0) (mCons (mLstR (mFn gLen (mCons (mBin gIxT (mVar 6) (mC (.int 0))) (mNil)))) (mNil)))) (mNil))))))) S) = .ok (.d (tabD t)) (some π') ∧ Tbl t m ∧ PenOk n π' := by
    rintro S ⟨t, m, π0, o7, o8, o9, o10, o11, o12, o13, o14, o15, o16, rfl, T, p0⟩
    have r1 := T.r1
    have r8 := T.r8
    have m8 := T.m8
    have l0 : (t.getD 0 []).length = m := T.at r1
    obtain ⟨xs, π5, e5, pr, p5⟩ := shuffled_ok (n := n + 50) (cs := List.range t.length) (p0.mono (by rw [List.length_range]; omega)) (by rw [List.length_range]; omega)
    obtain ⟨ys, π6, e6, pc, p6⟩ := shuffled_ok (n := n) (cs := List.range m) (p5.mono (by rw [List.length_range]; omega)) (by rw [List.length_range]; omega)
    have lx := pr.length_eq
    have ly := pc.length_eq
    rw [List.length_range] at lx ly
    walk_at "ks"
    rw [lstR_ok (S1 := ⟨[some (.w .pen), some (.w (.d (.int (most : Int)))), some (.w (.d (.int ((1 + a : Nat) : Int)))), some (.w (.d (.int ((1 + b : Nat) : Int)))), some (.w (.d (.int (r : Int)))), some (.w (.d (.int ((2 + k : Nat) : Int)))), some (.w (.d (tabD t))), o7, o8, o9, o10, o11, o12, o13, o14, o15, o16], some π0⟩) (n := t.length) (by
      walk_at "ks"
      rw [gLen_tab]
      walk_at "ks") (by omega)]
    walk_at "ks"
    rw [rng_intsN, call_pen (n := 2) (ws := [.pen, .new (intsN (List.range t.length))]) (as := [.pen, .d (.list (intsN (List.range t.length)))]) rfl rfl rfl e5]
    walk_at "ks"
    rw [lstR_ok (S1 := ⟨[some (.w .pen), some (.w (.d (.int (most : Int)))), some (.w (.d (.int ((1 + a : Nat) : Int)))), some (.w (.d (.int ((1 + b : Nat) : Int)))), some (.w (.d (.int (r : Int)))), some (.w (.d (.int ((2 + k : Nat) : Int)))), some (.w (.d (tabD t))), o7, o8, o9, o10, o11, o12, o13, o14, o15, some (.w (.d (.list (intsN xs))))], some π5⟩) (n := m) (by
      walk_at "ks"
      rw [gIxT_row0 r1]
      walk_at "ks"
      rw [gLen_row (by omega), l0]
      walk_at "ks") (by omega)]
    walk_at "ks"
    rw [rng_intsN, call_pen (n := 2) (ws := [.pen, .new (intsN (List.range m))]) (as := [.pen, .d (.list (intsN (List.range m)))]) rfl rfl rfl e6]
    walk_at "ks"
    rw [call_none (n := 3) (ws := [.d (tabD t), .d (.list (intsN xs)), .new (intsN ys)]) (as := [.d (tabD t), .d (.list (intsN xs)), .d (.list (intsN ys))]) rfl rfl rfl (lpart_ok T (fun x hx => List.mem_range.1 (pr.mem_iff.1 hx)) (fun x hx => List.mem_range.1 (pc.mem_iff.1 hx)) (by omega) (by omega) (.inr rfl) (.inr rfl))]
    walk_at "ks"
    exact ⟨partB t xs ys, m, π6, rfl, part_tbl T pr pc, p6⟩
  walk_at "ks"
  rw [drawR e1]
  walk_at "ks"
  rw [drawR e2]
  walk_at "ks"
  rw [drawR e3]
  walk_at "ks"
  rw [drawR e4]
  walk_at "ks"
  rw [show (1 : Int) + (a : Int) = ((1 + a : Nat) : Int) by omega, show (1 : Int) + (b : Int) = ((1 + b : Nat) : Int) by omega, show (2 : Int) + (k : Int) = ((2 + k : Nat) : Int) by omega]
  have m2 : (2 : Int) < (most : Int) := by omega
  by_cases c1 : (r : Int) < 2
  · rw [decide_eq_true c1]
    walk_at "ks"
    rw [decide_eq_true m2]
    obtain ⟨S', e, M⟩ := road_ring (n := n + 100) (R := ((1 + a : Nat) : Int)) (C := ((1 + b : Nat) : Int)) (r := (r : Int)) (th := ((2 + k : Nat) : Int)) h3 h8 (p4.mono (by omega))
    simp only [kSE, kSM]
    simp only [kSM] at e
    rw [e]
    simp only [kSM]
    have := tail S' M
    simp only [kSM] at this
    exact this
  · rw [decide_eq_false c1]
    walk_at "ks"
    by_cases c2 : (r : Int) < 4
    · obtain ⟨S', e, M⟩ := road_balls (n := n + 100) (most := most) (R := 1 + a) (C := 1 + b) (r := (r : Int)) (th := ((2 + k : Nat) : Int)) (by omega) (by omega) (by omega) (by omega) (p4.mono (by omega))
      rw [decide_eq_true c2, ifK_t, e]
      simp only [kSM]
      have := tail S' M
      simp only [kSM] at this
      exact this
    · rw [decide_eq_false c2, ifK_f]
      walk_at "ks"
      rw [gEq_int]
      walk_at "ks"
      by_cases c3 : (r : Int) = 4
      · obtain ⟨S', e, M⟩ := road_ends (n := n + 100) (most := most) (R := 1 + a) (C := 1 + b) (r := (r : Int)) (th := ((2 + k : Nat) : Int)) (by omega) (by omega) (by omega) (by omega) (p4.mono (by omega))
        rw [decide_eq_true c3, ifK_t, e]
        simp only [kSM]
        have := tail S' M
        simp only [kSM] at this
        exact this
      · obtain ⟨S', e, M⟩ := road_free (n := n + 100) (most := most) (R := 1 + a) (C := 1 + b) (r := (r : Int)) (th := 2 + k) (by omega) (by omega) (by omega) (by omega) (by omega) (by omega) (p4.mono (by omega))
        rw [decide_eq_false c3, ifK_f, e]
        simp only [kSM]
        have := tail S' M
        simp only [kSM] at this
        exact this
end K01

set_option Elab.async false
set_option linter.all false
set_option maxRecDepth 100000
set_option maxHeartbeats 4000000
namespace K01
open PySem PySem.Spec PyProof.Rows L2 Vf
local macro_rules | `(tactic| walk_at "ks") => `(tactic| simp only [kSO, start0, kSM, kSE, kSV, kSP, kSL, kSG, kD, kC, kIt, kCall, kM1, kPar, kSl, kFor, kSto, kTS, or_self, Option.map_some, Option.bind_some, sset_mk, Nat.reduceAdd, Nat.reduceLeDiff, ↓reduceIte, List.map_cons, List.map_nil, List.cons_append, List.nil_append, List.replicate, List.getElem?_cons_zero, List.getElem?_cons_succ, List.set_cons_zero, List.set_cons_succ, List.length_cons, List.length_nil, List.foldr_cons, List.foldr_nil])
/-! ### lines that are none -/
def fineB : PyData → Bool
  | .tuple ds => decide (ds.length ≤ 1000) && ds.all fun d => match d with
    | .str s => decide (s.length ≤ 1000)
    | _ => true
  | _ => true
theorem fine_of {d : PyData} (h : fineB d = true) : Fine d := by
  cases d with
  | tuple ds =>
    have h' : (decide (ds.length ≤ 1000) && ds.all fun d => match d with
      | .str s => decide (s.length ≤ 1000)
      | _ => true) = true := h
    rw [Bool.and_eq_true] at h'
    exact ⟨of_decide_eq_true h'.1, fun s hs => of_decide_eq_true (List.all_eq_true.1 h'.2 _ hs)⟩
  | _ => trivial
def oddL (n : Int) : List PyData := match F__law_odd_lines [.d (.int n)] none with
  | .ok (.new ds) _ => ds
  | _ => []
def okL (n : Int) (d : PyData) : Bool := fineB d && reprOk d && !areLn n d
theorem oddl1 : F__law_odd_lines [.d (.int 1)] none = .ok (.new (oddL 1)) none := by kernel_rfl
theorem oddk1 : (oddL 1).all (okL 1) = true := by kernel_rfl
theorem oddl2 : F__law_odd_lines [.d (.int 2)] none = .ok (.new (oddL 2)) none := by kernel_rfl
theorem oddk2 : (oddL 2).all (okL 2) = true := by kernel_rfl
theorem oddl3 : F__law_odd_lines [.d (.int 3)] none = .ok (.new (oddL 3)) none := by kernel_rfl
theorem oddk3 : (oddL 3).all (okL 3) = true := by kernel_rfl
theorem oddl4 : F__law_odd_lines [.d (.int 4)] none = .ok (.new (oddL 4)) none := by kernel_rfl
theorem oddk4 : (oddL 4).all (okL 4) = true := by kernel_rfl
theorem oddl5 : F__law_odd_lines [.d (.int 5)] none = .ok (.new (oddL 5)) none := by kernel_rfl
theorem oddk5 : (oddL 5).all (okL 5) = true := by kernel_rfl
theorem oddl6 : F__law_odd_lines [.d (.int 6)] none = .ok (.new (oddL 6)) none := by kernel_rfl
theorem oddk6 : (oddL 6).all (okL 6) = true := by kernel_rfl
theorem oddl7 : F__law_odd_lines [.d (.int 7)] none = .ok (.new (oddL 7)) none := by kernel_rfl
theorem oddk7 : (oddL 7).all (okL 7) = true := by kernel_rfl
theorem oddl8 : F__law_odd_lines [.d (.int 8)] none = .ok (.new (oddL 8)) none := by kernel_rfl
theorem oddk8 : (oddL 8).all (okL 8) = true := by kernel_rfl
theorem odd_lines {n : Nat} (h1 : 1 ≤ n) (h8 : n ≤ 8) : ∃ ds, F__law_odd_lines [.d (.int (n : Int))] none = .ok (.new ds) none ∧ ∀ d ∈ ds, Fine d ∧ reprOk d = true ∧ areLn (n : Int) d = false := by
  have key : ∀ m : Int, F__law_odd_lines [.d (.int m)] none = .ok (.new (oddL m)) none → (oddL m).all (okL m) = true → ∃ ds, F__law_odd_lines [.d (.int m)] none = .ok (.new ds) none ∧ ∀ d ∈ ds, Fine d ∧ reprOk d = true ∧ areLn m d = false := by
    intro m e k
    refine ⟨_, e, fun d hd => ?_⟩
    have h : (fineB d && reprOk d && !areLn m d) = true := List.all_eq_true.1 k d hd
    rw [Bool.and_eq_true, Bool.and_eq_true, Bool.not_eq_true'] at h
    exact ⟨fine_of h.1.1, h.1.2, h.2⟩
  match n, h1, h8 with
  | 1, _, _ => exact key 1 oddl1 oddk1
  | 2, _, _ => exact key 2 oddl2 oddk2
  | 3, _, _ => exact key 3 oddl3 oddk3
  | 4, _, _ => exact key 4 oddl4 oddk4
  | 5, _, _ => exact key 5 oddl5 oddk5
  | 6, _, _ => exact key 6 oddl6 oddk6
  | 7, _, _ => exact key 7 oddl7 oddk7
  | 8, _, _ => exact key 8 oddl8 oddk8
/-! ### objects that are no tables -/
theorem nt_row {ds : List PyData} {d : PyData} (h : d ∈ ds) (n : isRowD d = false) : isTabD (.tuple ds) = false := by
  cases ds with
  | nil => simp at h
  | cons x ds =>
    rw [isTabD_cons]
    have : (x :: ds).all isRowD = false := List.all_eq_false.2 ⟨d, h, by rw [n]; decide⟩
    rw [this, Bool.and_false, Bool.false_and]
theorem nt_len {x : PyData} {ds : List PyData} {y : PyData} (h : y ∈ ds) (n : sLen y ≠ sLen x) : isTabD (.tuple (x :: ds)) = false := by
  rw [isTabD_cons]
  have : ((x :: ds).all fun y => sLen y == sLen x) = false := List.all_eq_false.2 ⟨y, List.mem_cons_of_mem _ h, fun e => n (beq_iff_eq.1 e)⟩
  rw [this, Bool.and_false]
theorem nr_sign {s : Str} {c : Nat} (h : c ∈ s.cps.toList) (n : isSign c = false) : isRowD (.str s) = false := by
  show isRowS s = false
  unfold isRowS
  have : s.cps.toList.all isSign = false := List.all_eq_false.2 ⟨c, h, by rw [n]; decide⟩
  rw [this, Bool.and_false]
theorem nr_app {a b : Str} {c : Nat} (h : c ∈ b.cps.toList) (n : isSign c = false) : isRowD (.str (a ++ b)) = false := nr_sign (c := c) (by
  have e : (a ++ b).cps = a.cps ++ b.cps := rfl
  rw [e, Array.toList_append]
  exact List.mem_append_right _ h) n
theorem nr_app' {a b : Str} {c : Nat} (h : c ∈ a.cps.toList) (n : isSign c = false) : isRowD (.str (a ++ b)) = false := nr_sign (c := c) (by
  have e : (a ++ b).cps = a.cps ++ b.cps := rfl
  rw [e, Array.toList_append]
  exact List.mem_append_left _ h) n
theorem app_len (a b : Str) : (a ++ b).length = a.length + b.length := by
  show (a ++ b).cps.size = _
  have e : (a ++ b).cps = a.cps ++ b.cps := rfl
  rw [e, Array.size_append]
  rfl
theorem cut_last {r : List Bool} (h : 1 ≤ r.length) : cutS (rowS r) none (some (-1)) = rowS (r.take (r.length - 1)) := by
  unfold cutS rowS
  have e : HT.sIx (Str.length ⟨(r.map sgc).toArray⟩) (Str.length ⟨(r.map sgc).toArray⟩) (some (-1)) = r.length - 1 := by
    rw [str_len, List.length_map]
    show (if (-1 : Int) < 0 then ((-1 : Int) + (r.length : Int)).toNat else min (-1 : Int).toNat r.length) = _
    rw [if_pos (by decide)]
    omega
  rw [e, HT.sIx_none, List.drop_zero, Nat.sub_zero, List.map_take]
theorem cut_first {r : List Bool} (h : 1 ≤ r.length) : cutS (rowS r) (some 1) none = rowS (r.drop 1) := by
  have := cutS_from (z := rowS r) (k := 1) (by rw [rowS_len]; exact h)
  rw [show ((1 : Nat) : Int) = 1 from rfl] at this
  rw [this]
  unfold rowS
  congr 2
  show (r.map sgc).drop 1 = _
  rw [List.map_drop]
theorem mul9 (S : Sx) : gMulS S (.d (.str "x")) (.d (.int 9)) = some (.d (.str "xxxxxxxxx")) := by kernel_rfl
theorem mul8 (S : Sx) : gMulS S (.d (.str "x")) (.d (.int 8)) = some (.d (.str "xxxxxxxx")) := by kernel_rfl
theorem rep8 (S : Sx) (x : PyData) : gRepT S (.d (.tuple [x])) (.d (.int 8)) = some (.d (.tuple [x, x, x, x, x, x, x, x])) := Eq.trans (Eq.refl _) (Eq.refl _)
theorem rep9 (S : Sx) (x : PyData) : gRepT S (.d (.tuple [x])) (.d (.int 9)) = some (.d (.tuple [x, x, x, x, x, x, x, x, x])) := Eq.trans (Eq.refl _) (Eq.refl _)
theorem neg1 (S : Sx) : gNeg S (.d (.int 1)) = some (.d (.int (-1))) := Eq.trans (Eq.refl _) (Eq.refl _)
theorem cat_dd (S : Sx) (a b : List PyData) (h : a.length + b.length ≤ 16777216) : gCatL S (.d (.list a)) (.new b) = some (.new (a ++ b)) := gCatL_ok rfl rfl h
theorem listS_row {S : Sx} {r : List Bool} (h : r.length ≤ 1000) : gListS S [.d (.str (rowS r))] = some (.new (signsD (rowS r))) := by
  show (if (rowS r).length ≤ 16777216 then some (W.new (signsD (rowS r))) else none) = _
  rw [if_pos (by rw [rowS_len]; omega)]
def OkT (d : PyData) : Prop := Fine d ∧ reprOk d = true ∧ isTabD d = false
theorem okT_c {d : PyData} (h : (fineB d && reprOk d && !isTabD d) = true) : OkT d := by
  rw [Bool.and_eq_true, Bool.and_eq_true, Bool.not_eq_true'] at h
  exact ⟨fine_of h.1.1, h.1.2, h.2⟩
theorem okT_strs {ss : List Str} (hs : ∀ s ∈ ss, SOk s 20) (hl : ss.length ≤ 100) (n : isTabD (.tuple (ss.map PyData.str)) = false) : OkT (.tuple (ss.map PyData.str)) := by
  refine ⟨⟨by rw [List.length_map]; omega, fun s h => ?_⟩, reprOk_of (Rok.tup (dp := 0) (w := 20) fun d hd => ?_) (by omega) (by rw [List.length_map]; omega), n⟩
  · obtain ⟨s', hs', e⟩ := List.mem_map.1 h
    injection e with e
    subst e
    have := (hs _ hs').1
    omega
  · obtain ⟨s, hs', rfl⟩ := List.mem_map.1 hd
    exact Rok.str (hs s hs')
theorem odd_tables {t : List (List Bool)} {m : Nat} (T : Tbl t m) : ∃ ds, F__law_odd_tables [.d (tabD t)] none = .ok (.new ds) none ∧ ∀ d ∈ ds, OkT d := by
  have r1 := T.r1
  have r8 := T.r8
  have m1 := T.m1
  have m8 := T.m8
  have l0 : (t.getD 0 []).length = m := T.at r1
  generalize hr : t.getD 0 [] = r at l0
  unfold F__law_odd_tables m__law_odd_tables
  have eX : ∀ (S : Sx) (a b : Str) (h : a.length ≤ 1000) (h' : b.length ≤ 1000), gCatS S (.d (.str a)) (.d (.str b)) = some (.d (.str (a ++ b))) := fun S a b h h' => gCatS_ok (by omega)
  have lr : (rowS r).length = m := by rw [rowS_len, l0]
  have lc : (rowS (r.take (r.length - 1))).length = m - 1 := by rw [rowS_len, List.length_take, l0]; omega
  have ld : (rowS (r.drop 1)).length = m - 1 := by rw [rowS_len, List.length_drop, l0]
  have c1 : ∀ S : Sx, gSlS S (.d (.str (rowS r))) none (some (-1)) = some (.d (.str (rowS (r.take (r.length - 1))))) := fun S => by rw [gSlS_ok (by omega), cut_last (by omega)]
  have c2 : ∀ S : Sx, gSlS S (.d (.str (rowS r))) (some 1) none = some (.d (.str (rowS (r.drop 1)))) := fun S => by rw [gSlS_ok (by omega), cut_first (by omega)]
  have x1 : ∀ S : Sx, gCatS S (.d (.str (rowS r))) (.d (.str "x")) = some (.d (.str (rowS r ++ Str.ofString "x"))) := fun S => eX S _ _ (by omega) (by decide +kernel)
  have x2 : ∀ S : Sx, gCatS S (.d (.str (rowS (r.take (r.length - 1))))) (.d (.str "X")) = some (.d (.str (rowS (r.take (r.length - 1)) ++ Str.ofString "X"))) := fun S => eX S _ _ (by omega) (by decide +kernel)
  have x3 : ∀ S : Sx, gCatS S (.d (.str (rowS (r.take (r.length - 1))))) (.d (.str "o")) = some (.d (.str (rowS (r.take (r.length - 1)) ++ Str.ofString "o"))) := fun S => eX S _ _ (by omega) (by decide +kernel)
  have x4 : ∀ S : Sx, gCatS S (.d (.str (rowS (r.take (r.length - 1))))) (.d (.str " ")) = some (.d (.str (rowS (r.take (r.length - 1)) ++ Str.ofString " "))) := fun S => eX S _ _ (by omega) (by decide +kernel)
  have x5 : ∀ S : Sx, gCatS S (.d (.str (rowS (r.take (r.length - 1))))) (.d (.str "1")) = some (.d (.str (rowS (r.take (r.length - 1)) ++ Str.ofString "1"))) := fun S => eX S _ _ (by omega) (by decide +kernel)
  have x6 : ∀ S : Sx, gCatS S (.d (.str "o")) (.d (.str (rowS (r.drop 1)))) = some (.d (.str (Str.ofString "o" ++ rowS (r.drop 1)))) := fun S => eX S _ _ (by decide +kernel) (by omega)
  have ls : ∀ S : Sx, gListS S [.d (.str (rowS r))] = some (.new (signsD (rowS r))) := fun S => listS_row (by omega)
  have lt : ∀ S : Sx, gList S [.d (tabD t)] = some (.new (rowsD t)) := fun S => rfl
  walk_at "ks"
  rw [gIxT_row0 r1, hr]
  simp only [kSO, start0, kSM, kSE, kSV, kSP, kSL, kSG, kD, kC, kIt, kPar, kSl, or_self, Option.map_some, Option.bind_some, sset_mk, Nat.reduceAdd, Nat.reduceLeDiff, ↓reduceIte, List.map_cons, List.map_nil, List.cons_append, List.nil_append, List.replicate, List.getElem?_cons_zero, List.getElem?_cons_succ, List.set_cons_zero, List.set_cons_succ, List.length_cons, List.length_nil, lt, ls, c1, c2, x1, x2, x3, x4, x5, x6, mul8, mul9, rep8, rep9, neg1, cat_dd]
  refine ⟨_, rfl, ?_⟩
  have S1 : SOk (rowS r) 10 := sok_row.mono (by omega)
  have S2 : SOk (rowS (r.take (r.length - 1))) 10 := sok_row.mono (by rw [List.length_take]; omega)
  have S3 : SOk (rowS (r.drop 1)) 10 := sok_row.mono (by rw [List.length_drop]; omega)
  have sx : SOk (Str.ofString "x") 10 := .of (by decide +kernel)
  have sX : SOk (Str.ofString "X") 10 := .of (by decide +kernel)
  have so : SOk (Str.ofString "o") 10 := .of (by decide +kernel)
  have sb : SOk (Str.ofString " ") 10 := .of (by decide +kernel)
  have s1 : SOk (Str.ofString "1") 10 := .of (by decide +kernel)
  have two : ∀ a b : Str, SOk a 20 → SOk b 20 → isTabD (.tuple [.str a, .str b]) = false → OkT (.tuple [.str a, .str b]) := fun a b ha hb n => okT_strs (ss := [a, b]) (by intro s hs; simp at hs; rcases hs with rfl | rfl <;> assumption) (by simp) n
  have one : ∀ a : Str, SOk a 20 → isTabD (.tuple [.str a]) = false → OkT (.tuple [.str a]) := fun a ha n => okT_strs (ss := [a]) (by intro s hs; simp at hs; rw [hs]; exact ha) (by simp) n
  have up : ∀ {s : Str}, SOk s 10 → SOk s 20 := fun h => h.mono (by omega)
  have e1 : (rowS r ++ Str.ofString "x").length ≠ (rowS r).length := by
    rw [app_len, show (Str.ofString "x").length = 1 from by decide +kernel]; omega
  have rsig : ∀ d ∈ signsD (rowS r), Rok d 0 1 := fun d hd => by
    obtain ⟨c, hc, rfl⟩ := List.mem_map.1 hd
    exact Rok.str (SOk.list (xs := [c]) (Nat.le_refl _) fun c' hc' => by rw [List.mem_singleton.1 hc']; exact S1.2 c hc)
  refine List.forall_mem_cons.2 ⟨okT_c (by kernel_rfl), List.forall_mem_cons.2 ⟨okT_c (by kernel_rfl), List.forall_mem_cons.2 ⟨okT_c (by kernel_rfl), List.forall_mem_cons.2 ⟨okT_c (by kernel_rfl), List.forall_mem_cons.2 ⟨okT_c (by kernel_rfl), List.forall_mem_cons.2 ⟨okT_c (by kernel_rfl), List.forall_mem_cons.2 ⟨okT_c (by kernel_rfl), ?_⟩⟩⟩⟩⟩⟩⟩
  refine List.forall_mem_cons.2 ⟨⟨trivial, reprOk_of (Rok.lst (dp := 0) (w := 8) fun d hd => ?_) (by omega) (by unfold rowsD; rw [List.length_map]; omega), rfl⟩, ?_⟩
  · obtain ⟨x, hx, rfl⟩ := List.mem_map.1 hd
    exact Rok.str (sok_row.mono (by rw [T.row x hx]; exact m8))
  refine List.forall_mem_cons.2 ⟨okT_c (by kernel_rfl), List.forall_mem_cons.2 ⟨okT_c (by kernel_rfl), List.forall_mem_cons.2 ⟨okT_c (by kernel_rfl), List.forall_mem_cons.2 ⟨okT_c (by kernel_rfl), ?_⟩⟩⟩⟩
  refine List.forall_mem_cons.2 ⟨two _ _ (up S1) (S1.app sx) (nt_len (List.mem_singleton.2 rfl) e1), List.forall_mem_cons.2 ⟨two _ _ (S1.app sx) (up S1) (nt_len (List.mem_singleton.2 rfl) e1.symm), ?_⟩⟩
  refine List.forall_mem_cons.2 ⟨okT_c (by kernel_rfl), List.forall_mem_cons.2 ⟨okT_c (by kernel_rfl), ?_⟩⟩
  refine List.forall_mem_cons.2 ⟨two _ _ (up S1) (S2.app sX) (nt_row (List.mem_cons_of_mem _ (List.mem_singleton.2 rfl)) (nr_app (c := 88) (by decide +kernel) rfl)), ?_⟩
  refine List.forall_mem_cons.2 ⟨one _ (S2.app so) (nt_row (List.mem_singleton.2 rfl) (nr_app (c := 111) (by decide +kernel) rfl)), ?_⟩
  refine List.forall_mem_cons.2 ⟨one _ (S2.app sb) (nt_row (List.mem_singleton.2 rfl) (nr_app (c := 32) (by decide +kernel) rfl)), ?_⟩
  refine List.forall_mem_cons.2 ⟨⟨⟨by simp, fun s hs => ?_⟩, reprOk_of (Rok.tup (dp := 0) (w := 10) fun d hd => ?_) (by omega) (by simp), nt_row (d := .none) (by simp) rfl⟩, ?_⟩
  · simp at hs
    rw [hs, rowS_len]; omega
  · simp at hd
    rcases hd with rfl | rfl
    · exact Rok.str S1
    · exact Rok.non.mono (by omega) (by omega)
  refine List.forall_mem_cons.2 ⟨⟨⟨by simp, fun s hs => ?_⟩, reprOk_of (Rok.tup (dp := 1) (w := 20) fun d hd => ?_) (by omega) (by simp), nt_row (d := .list (signsD (rowS r))) (by simp) rfl⟩, ?_⟩
  · simp at hs
    rw [hs, rowS_len]; omega
  · simp at hd
    rcases hd with rfl | rfl
    · exact (Rok.str S1).mono (by omega) (by omega)
    · exact (Rok.lst rsig).mono (by omega) (by rw [signs_len, lr]; omega)
  refine List.forall_mem_cons.2 ⟨okT_c (by kernel_rfl), List.forall_mem_cons.2 ⟨okT_c (by kernel_rfl), List.forall_mem_cons.2 ⟨okT_c (by kernel_rfl), ?_⟩⟩⟩
  refine List.forall_mem_cons.2 ⟨two _ _ (S2.app s1) (up S1) (nt_row (List.mem_cons_self ..) (nr_app (c := 49) (by decide +kernel) rfl)), ?_⟩
  refine List.forall_mem_cons.2 ⟨⟨⟨by simp, fun s hs => by simp at hs⟩, reprOk_of (Rok.tup (dp := 1) (w := 20) fun d hd => ?_) (by omega) (by simp), nt_row (List.mem_singleton.2 rfl) rfl⟩, ?_⟩
  · rw [List.mem_singleton.1 hd]
    exact (Rok.lst (dp := 0) (w := 10) fun d hd => by rw [List.mem_singleton.1 hd]; exact Rok.str S1).mono (by omega) (by simp)
  refine List.forall_mem_cons.2 ⟨one _ (S2.app s1) (nt_row (List.mem_singleton.2 rfl) (nr_app (c := 49) (by decide +kernel) rfl)), ?_⟩
  refine List.forall_mem_cons.2 ⟨two _ _ (so.app S3) (up S1) (nt_row (List.mem_cons_self ..) (nr_app' (c := 111) (by decide +kernel) rfl)), ?_⟩
  refine List.forall_mem_cons.2 ⟨okT_c (by kernel_rfl), List.forall_mem_cons.2 ⟨okT_c (by kernel_rfl), List.forall_mem_cons.2 ⟨okT_c (by kernel_rfl), List.forall_mem_cons.2 ⟨okT_c (by kernel_rfl), List.forall_mem_cons.2 ⟨okT_c (by kernel_rfl), List.forall_mem_cons.2 ⟨okT_c (by kernel_rfl), List.forall_mem_cons.2 ⟨okT_c (by kernel_rfl), fun d hd => by simp at hd⟩⟩⟩⟩⟩⟩⟩
end K01

set_option Elab.async false
set_option linter.all false
set_option maxRecDepth 100000
set_option maxHeartbeats 4000000
namespace K01
open PySem PySem.Spec PyProof.Rows L2 Vf
local macro_rules | `(tactic| walk_at "ks") => `(tactic| simp only [kSO, start0, kSM, kSE, kSV, kSP, kSL, kSG, kD, kC, kIt, kCall, kM1, kPar, kPar3, kSl, kFor, kSto, kTS, or_self, Option.map_some, Option.bind_some, sset_mk, Nat.reduceAdd, Nat.reduceLeDiff, ↓reduceIte, List.map_cons, List.map_nil, List.cons_append, List.nil_append, List.replicate, List.getElem?_cons_zero, List.getElem?_cons_succ, List.set_cons_zero, List.set_cons_succ, List.length_cons, List.length_nil, List.foldr_cons, List.foldr_nil])
theorem with_fine {t : List (List Bool)} {m k : Nat} {d : PyData} (T : Tbl t m) (hd : ∀ s, d = .str s → s.length ≤ 1000) : Fine (withD t k d) := by
  have r8 := T.r8
  have m8 := T.m8
  refine ⟨?_, fun s hs => ?_⟩
  · unfold rowsD
    rw [List.length_append, List.length_append, List.length_map, List.length_map, List.length_take, List.length_drop, List.length_cons, List.length_nil]
    omega
  · have row : ∀ t' : List (List Bool), (∀ r ∈ t', r ∈ t) → PyData.str s ∈ rowsD t' → s.length ≤ 1000 := fun t' h hs => by
      obtain ⟨r, hr, e⟩ := List.mem_map.1 hs
      injection e with e
      rw [← e, rowS_len, T.row r (h r hr)]
      omega
    rcases List.mem_append.1 hs with hs | hs
    · rcases List.mem_append.1 hs with hs | hs
      · exact row _ (fun r hr => List.mem_of_mem_take hr) hs
      · exact hd s (List.mem_singleton.1 hs).symm
    · exact row _ (fun r hr => List.mem_of_mem_drop hr) hs
theorem with_rok {t : List (List Bool)} {m k dp w : Nat} {d : PyData} (T : Tbl t m) (h : Rok d dp w) (hw : 8 ≤ w) : Rok (withD t k d) (dp + 1) (9 * (w + 1)) := by
  have r8 := T.r8
  have m8 := T.m8
  have row : ∀ t' : List (List Bool), (∀ r ∈ t', r ∈ t) → ∀ x ∈ rowsD t', Rok x dp w := fun t' h x hx => by
    obtain ⟨r, hr, rfl⟩ := List.mem_map.1 hx
    exact (Rok.str sok_row).mono (by omega) (by rw [T.row r (h r hr)]; omega)
  refine (Rok.tup (dp := dp) (w := w) fun x hx => ?_).mono (Nat.le_refl _) ?_
  · rcases List.mem_append.1 hx with hx | hx
    · rcases List.mem_append.1 hx with hx | hx
      · exact row _ (fun r hr => List.mem_of_mem_take hr) x hx
      · rw [List.mem_singleton.1 hx]; exact h
    · exact row _ (fun r hr => List.mem_of_mem_drop hr) x hx
  · refine Nat.mul_le_mul ?_ (Nat.le_refl _)
    unfold rowsD
    rw [List.length_append, List.length_append, List.length_map, List.length_map, List.length_take, List.length_drop, List.length_cons, List.length_nil]
    omega
/-- the signs that are tried -/
def sigL : List PyData := signsD (Str.ofString " !#$&()*+,-/0189:;<=>?@AXZ[]^_aowyz{|}~\t\nx.") ++ [.str "", .str "xx", .str "..", .str "x", .str "."]
theorem sig_len : sigL.length = 48 := by kernel_rfl
theorem sig_ok : sigL.all (fun d => match d with
    | .str s => decide (s.length ≤ 2) && s.cps.toList.all fun c => decide (c < 1000)
    | _ => false) = true := by kernel_rfl
theorem sig_list (S : Sx) : gListS S [.d (.str " !#$&()*+,-/0189:;<=>?@AXZ[]^_aowyz{|}~\t\nx.")] = some (.new (signsD (Str.ofString " !#$&()*+,-/0189:;<=>?@AXZ[]^_aowyz{|}~\t\nx."))) := by
  show (if (Str.ofString " !#$&()*+,-/0189:;<=>?@AXZ[]^_aowyz{|}~\t\nx.").length ≤ 16777216 then some (W.new (signsD (Str.ofString " !#$&()*+,-/0189:;<=>?@AXZ[]^_aowyz{|}~\t\nx."))) else none) = _
  rw [if_pos (by decide +kernel)]
theorem sig_cat (S : Sx) : gCatL S (.new (signsD (Str.ofString " !#$&()*+,-/0189:;<=>?@AXZ[]^_aowyz{|}~\t\nx."))) (.new [.str "", .str "xx", .str "..", .str "x", .str "."]) = some (.new sigL) := by
  rw [gCatL_ok rfl rfl (by rw [signs_len]; decide +kernel)]
  rfl
theorem bent_ok {n : Nat} {π : Pen} {t : List (List Bool)} {m : Nat} (T : Tbl t m) (h : PenOk (n + 10) π) : ∃ d π', F__law_bent [.pen, .d (tabD t)] (some π) = .ok (.d d) (some π') ∧ Fine d ∧ reprOk d = true ∧ PenOk n π' := by
  have r1 := T.r1
  have r8 := T.r8
  have m1 := T.m1
  have m8 := T.m8
  have l0 : (t.getD 0 []).length = m := T.at r1
  obtain ⟨a, π1, e1, a1, p1⟩ := draw_nat (u := t.length) (n := n + 9) h (by omega) (by omega)
  obtain ⟨b, π2, e2, b1, p2⟩ := draw_nat (u := m) (n := n + 8) p1 (by omega) (by omega)
  obtain ⟨r, π3, e3, q1, p3⟩ := draw_nat (u := 12) (n := n + 7) p2 (by omega) (by omega)
  replace e3 : F__law_draw [.pen, .d (.int 12)] (some π2) = .ok (.d (.int (r : Int))) (some π3) := e3
  have la : (t.getD a []).length = m := T.at a1
  unfold F__law_bent m__law_bent
  walk_at "ks"
  rw [gLen_tab]
  walk_at "ks"
  rw [drawR e1]
  walk_at "ks"
  rw [gIxT_row0 r1]
  walk_at "ks"
  rw [gLen_row (by omega), l0]
  walk_at "ks"
  rw [drawR e2]
  walk_at "ks"
  rw [drawR e3]
  walk_at "ks"
  by_cases c1 : (r : Int) < 5
  · rw [decide_eq_true c1, ifK_t]
    obtain ⟨q, π4, e4, q4, p4⟩ := draw_nat (u := 48) (n := n + 6) p3 (by omega) (by omega)
    replace e4 : F__law_draw [.pen, .d (.int 48)] (some π3) = .ok (.d (.int (q : Int))) (some π4) := e4
    walk_at "ks"
    rw [sig_list]
    walk_at "ks"
    rw [sig_cat]
    walk_at "ks"
    rw [sig_len]
    rw [show ((48 : Nat) : Int) = 48 from rfl, drawR e4]
    walk_at "ks"
    have hq : q < sigL.length := by rw [sig_len]; exact q4
    rw [atI_nat hq]
    walk_at "ks"
    have ck := List.all_eq_true.1 sig_ok sigL[q] (List.getElem_mem hq)
    obtain ⟨z, ez, hz⟩ : ∃ z, sigL[q] = .str z ∧ SOk z 2 := by
      generalize sigL[q] = d at ck
      cases d with
      | str s => exact ⟨s, rfl, .of ck⟩
      | _ => cases ck
    rw [ez]
    rw [call_none (n := 4) (ws := [.d (tabD t), .d (.int (a : Int)), .d (.int (b : Int)), .d (.str z)]) (as := [.d (tabD t), .d (.int (a : Int)), .d (.int (b : Int)), .d (.str z)]) rfl rfl rfl (with_ok T a1 b1 (by have := hz.1; omega))]
    walk_at "ks"
    have sw : SOk (withS (t.getD a []) b z) 20 := by
      refine SOk.list ?_ fun c hc => ?_
      · rw [List.length_append, List.length_append, List.length_map, List.length_map, List.length_take, List.length_drop, la]
        have h1 := hz.1
        have : z.cps.toList.length = z.length := by rw [Array.length_toList]; rfl
        omega
      · rcases List.mem_append.1 hc with hc | hc
        · rcases List.mem_append.1 hc with hc | hc
          · obtain ⟨x, _, rfl⟩ := List.mem_map.1 hc
            cases x <;> decide
          · exact hz.2 c hc
        · obtain ⟨x, _, rfl⟩ := List.mem_map.1 hc
          cases x <;> decide
    exact ⟨_, _, rfl, with_fine T fun s e => by injection e with e; subst e; have := sw.1; omega, reprOk_of (with_rok T (Rok.str sw) (by omega)) (by omega) (by omega), p4.mono (by omega)⟩
  · rw [decide_eq_false c1, ifK_f]
    walk_at "ks"
    by_cases c2 : (r : Int) < 8
    · rw [decide_eq_true c2, ifK_t]
      obtain ⟨q, π4, e4, q4, p4⟩ := draw_nat (u := 9) (n := n + 6) p3 (by omega) (by omega)
      replace e4 : F__law_draw [.pen, .d (.int 9)] (some π3) = .ok (.d (.int (q : Int))) (some π4) := e4
      have g1 : ∀ S : Sx, gIxT S (.d (tabD t)) (.d (.int (a : Int))) = some (.d (.str (rowS (t.getD a [])))) := fun S => gIxT_row a1
      have g2 : ∀ S : Sx, gListS S [.d (.str (rowS (t.getD a [])))] = some (.new (signsD (rowS (t.getD a [])))) := fun S => listS_row (by omega)
      have g3 : ∀ S : Sx, gCatS S (.d (.str (rowS (t.getD a [])))) (.d (.str ".")) = some (.d (.str (rowS (t.getD a []) ++ Str.ofString "."))) := fun S => gCatS_ok (by rw [rowS_len, show (Str.ofString ".").length = 1 from by decide +kernel]; omega)
      have g4 : ∀ S : Sx, gSlS S (.d (.str (rowS (t.getD a [])))) (some 1) none = some (.d (.str (rowS ((t.getD a []).drop 1)))) := fun S => by rw [gSlS_ok (by rw [rowS_len]; omega), cut_first (by omega)]
      simp only [kSO, start0, kSM, kSE, kSV, kSP, kSL, kSG, kD, kC, kIt, kCall, kPar, kSl, or_self, Option.map_some, Option.bind_some, sset_mk, Nat.reduceAdd, Nat.reduceLeDiff, ↓reduceIte, List.map_cons, List.map_nil, List.cons_append, List.nil_append, List.replicate, List.getElem?_cons_zero, List.getElem?_cons_succ, List.set_cons_zero, List.set_cons_succ, List.length_cons, List.length_nil, g1, g2, g3, g4]
      rw [drawR e4]
      walk_at "ks"
      obtain ⟨x, ex, hx⟩ := atI_lt (xs := [PyData.none, .tuple [], .list (signsD (rowS (t.getD a []))), .int 0, .bool true, .str (Str.ofString ""), .str (Str.ofString "x"), .str (rowS (t.getD a []) ++ Str.ofString "."), .str (rowS ((t.getD a []).drop 1))]) (i := (q : Int)) (by omega) (by simp only [List.length_cons, List.length_nil]; omega)
      rw [ex]
      walk_at "ks"
      have S1 : SOk (rowS (t.getD a [])) 10 := sok_row.mono (by omega)
      have S3 : SOk (rowS ((t.getD a []).drop 1)) 10 := sok_row.mono (by rw [List.length_drop]; omega)
      have sd : SOk (Str.ofString ".") 10 := .of (by decide +kernel)
      have xr : Rok x 1 30 ∧ ∀ s, x = .str s → s.length ≤ 1000 := by
        have st : ∀ s : Str, SOk s 20 → Rok (.str s) 1 30 ∧ ∀ s', PyData.str s = .str s' → s'.length ≤ 1000 := fun s h => ⟨(Rok.str h).mono (by omega) (by omega), fun s' e => by injection e with e; subst e; have := h.1; omega⟩
        simp only [List.mem_cons, List.not_mem_nil, or_false] at hx
        rcases hx with rfl | rfl | rfl | rfl | rfl | rfl | rfl | rfl | rfl
        · exact ⟨Rok.non.mono (by omega) (by omega), fun s e => nomatch e⟩
        · exact ⟨(Rok.of (dp := 1) (w := 0) (by decide +kernel)).mono (by omega) (by omega), fun s e => nomatch e⟩
        · refine ⟨(Rok.lst (dp := 0) (w := 1) fun d hd => ?_).mono (by omega) (by rw [signs_len, rowS_len, la]; omega), fun s e => nomatch e⟩
          obtain ⟨c, hc, rfl⟩ := List.mem_map.1 hd
          exact Rok.str (SOk.list (xs := [c]) (Nat.le_refl _) fun c' hc' => by rw [List.mem_singleton.1 hc']; exact S1.2 c hc)
        · exact ⟨(Rok.of (dp := 0) (w := 10) (by decide +kernel)).mono (by omega) (by omega), fun s e => nomatch e⟩
        · exact ⟨(Rok.bl true).mono (by omega) (by omega), fun s e => nomatch e⟩
        · exact st _ (.of (by decide +kernel))
        · exact st _ (.of (by decide +kernel))
        · exact st _ (S1.app sd)
        · exact st _ (S3.mono (by omega))
      have e1 : ∀ S, gSlT S (.d (tabD t)) none (some (a : Int)) = some (.d (.tuple (rowsD (t.take a)))) := fun S => by
        show some (W.d (.tuple (cutD (rowsD t) none (some (a : Int))))) = _
        rw [cutD_to (by unfold rowsD; rw [List.length_map]; omega)]
        unfold rowsD
        rw [List.map_take]
      have e2 : ∀ S, gSlT S (.d (tabD t)) (some ((a : Int) + 1)) none = some (.d (.tuple (rowsD (t.drop (a + 1))))) := fun S => by
        show some (W.d (.tuple (cutD (rowsD t) (some ((a + 1 : Nat) : Int)) none))) = _
        rw [cutD_from (by unfold rowsD; rw [List.length_map]; omega)]
        unfold rowsD
        rw [List.map_drop]
      rw [e1]
      walk_at "ks"
      rw [gCatT_ok (by unfold rowsD; rw [List.length_map, List.length_take, List.length_cons, List.length_nil]; omega)]
      walk_at "ks"
      rw [e2]
      walk_at "ks"
      rw [gCatT_ok (by unfold rowsD; rw [List.length_append, List.length_map, List.length_map, List.length_take, List.length_drop, List.length_cons, List.length_nil]; omega)]
      walk_at "ks"
      exact ⟨withD t a x, π4, rfl, with_fine T xr.2, reprOk_of (with_rok T xr.1 (by omega)) (by omega) (by omega), p4.mono (by omega)⟩
    · rw [decide_eq_false c2, ifK_f]
      walk_at "ks"
      obtain ⟨q, π4, e4, q4, p4⟩ := draw_nat (u := 6) (n := n + 6) p3 (by omega) (by omega)
      replace e4 : F__law_draw [.pen, .d (.int 6)] (some π3) = .ok (.d (.int (q : Int))) (some π4) := e4
      have lt : (rowsD t).length = t.length := by unfold rowsD; rw [List.length_map]
      have g1 : ∀ S : Sx, gSlT S (.d (tabD t)) none (some 1) = some (.d (.tuple ((rowsD t).take 1))) := fun S => by
        show some (W.d (.tuple (cutD (rowsD t) none (some ((1 : Nat) : Int))))) = _
        rw [cutD_to (by omega)]
      have g2 : ∀ S : Sx, gSlT S (.d (tabD t)) (some 1) none = some (.d (.tuple ((rowsD t).drop 1))) := fun S => by
        show some (W.d (.tuple (cutD (rowsD t) (some ((1 : Nat) : Int)) none))) = _
        rw [cutD_from (by omega)]
      have g3 : ∀ S : Sx, gCatT S (.d (tabD t)) (.d (.tuple ((rowsD t).take 1))) = some (.d (.tuple (rowsD t ++ (rowsD t).take 1))) := fun S => gCatT_ok (by rw [List.length_take]; show (rowsD t).length + _ ≤ _; omega)
      have g4 : ∀ S : Sx, gRepT S (.d (tabD t)) (.d (.int 8)) = some (.d (.tuple (List.replicate 8 (rowsD t)).flatten)) := fun S => by
        show (if !(rowsD t).isEmpty && decide ((2 : Int) ≤ 8) && decide ((8 : Int) ≤ 1000) && decide ((rowsD t).length ≤ 1000) then some (W.d (.tuple (List.replicate (8 : Int).toNat (rowsD t)).flatten)) else none) = _
        have ne : (rowsD t).isEmpty = false := by
          cases t with
          | nil => simp at r1
          | cons x t => rfl
        rw [ne, decide_eq_true (show (rowsD t).length ≤ 1000 by omega), if_pos (by decide)]
        rfl
      have g5 : ∀ S : Sx, gList S [.d (tabD t)] = some (.new (rowsD t)) := fun S => rfl
      have jl : ((t.map rowS).map Str.length).sum ≤ t.length * 8 := by
        have : ∀ t' : List (List Bool), (∀ r ∈ t', r.length = m) → ((t'.map rowS).map Str.length).sum ≤ t'.length * 8 := by
          intro t' ht
          induction t' with
          | nil => simp
          | cons x t' ih =>
            rw [List.map_cons, List.map_cons, List.sum_cons, rowS_len, ht x (List.mem_cons_self ..), List.length_cons]
            have := ih fun r hr => ht r (List.mem_cons_of_mem _ hr)
            omega
        exact this t T.row
      have g6 : ∀ S : Sx, gJoin S (.d (.str "\n")) (.d (tabD t)) = some (.d (.str (Txt.join "\n" (t.map rowS)))) := fun S => gJoin_ok (ds := rowsD t) rfl (strsD_map rowS t) (by
        show ((t.map rowS).map Str.length).sum + (t.map rowS).length * (Str.ofString "\n").length ≤ _
        rw [List.length_map, show (Str.ofString "\n").length = 1 from by decide +kernel]
        omega)
      simp only [kSO, start0, kSM, kSE, kSV, kSP, kSL, kSG, kD, kC, kIt, kCall, kM1, kPar, kSl, or_self, Option.map_some, Option.bind_some, sset_mk, Nat.reduceAdd, Nat.reduceLeDiff, ↓reduceIte, List.map_cons, List.map_nil, List.cons_append, List.nil_append, List.replicate, List.getElem?_cons_zero, List.getElem?_cons_succ, List.set_cons_zero, List.set_cons_succ, List.length_cons, List.length_nil, g1, g2, g3, g5, g6]
      simp only [g4]
      simp only [kSO, start0, kSM, kSE, kSV, kSP, kSL, kSG, kD, kC, kIt, kCall, kM1, kPar, kSl, or_self, Option.map_some, Option.bind_some, sset_mk, Nat.reduceAdd, Nat.reduceLeDiff, ↓reduceIte, List.map_cons, List.map_nil, List.cons_append, List.nil_append, List.getElem?_cons_zero, List.getElem?_cons_succ, List.set_cons_zero, List.set_cons_succ, List.length_cons, List.length_nil, g1, g2, g3, g5, g6]
      rw [drawR e4]
      walk_at "ks"
      obtain ⟨x, ex, hx⟩ := atI_lt (xs := [PyData.tuple (rowsD t ++ List.take 1 (rowsD t)), PyData.tuple (List.drop 1 (rowsD t)), PyData.tuple [rowsD t, rowsD t, rowsD t, rowsD t, rowsD t, rowsD t, rowsD t, rowsD t].flatten, PyData.list (rowsD t), PyData.str (Txt.join (Str.ofString "\n") (List.map rowS t)), PyData.dict []]) (i := (q : Int)) (by omega) (by simp only [List.length_cons, List.length_nil]; omega)
      rw [ex]
      walk_at "ks"
      have rows : ∀ ds : List PyData, (∀ d ∈ ds, d ∈ rowsD t) → ds.length ≤ 100 → Fine (.tuple ds) ∧ reprOk (.tuple ds) = true := fun ds hds hl => by
        refine ⟨⟨by omega, fun s hs => ?_⟩, reprOk_of (Rok.tup (dp := 0) (w := 8) fun d hd => ?_) (by omega) (by omega)⟩
        · obtain ⟨r, hr, e⟩ := List.mem_map.1 (hds _ hs)
          injection e with e
          rw [← e, rowS_len, T.row r hr]
          omega
        · obtain ⟨r, hr, rfl⟩ := List.mem_map.1 (hds d hd)
          exact Rok.str (sok_row.mono (by rw [T.row r hr]; exact m8))
      have fin : Fine x ∧ reprOk x = true := by
        simp only [List.mem_cons, List.not_mem_nil, or_false] at hx
        rcases hx with rfl | rfl | rfl | rfl | rfl | rfl
        · refine rows _ (fun d hd => ?_) (by rw [List.length_append, List.length_take]; omega)
          rcases List.mem_append.1 hd with hd | hd
          · exact hd
          · exact List.mem_of_mem_take hd
        · exact rows _ (fun d hd => List.mem_of_mem_drop hd) (by rw [List.length_drop]; omega)
        · refine rows _ (fun d hd => ?_) (by simp only [List.flatten_cons, List.flatten_nil, List.length_append, List.length_nil]; omega)
          obtain ⟨l, hl, hd⟩ := List.mem_flatten.1 hd
          simp only [List.mem_cons, List.not_mem_nil, or_false, or_self] at hl
          rw [hl] at hd
          exact hd
        · refine ⟨trivial, reprOk_of (Rok.lst (dp := 0) (w := 8) fun d hd => ?_) (by omega) (by omega)⟩
          obtain ⟨r, hr, rfl⟩ := List.mem_map.1 hd
          exact Rok.str (sok_row.mono (by rw [T.row r hr]; exact m8))
        · refine ⟨trivial, reprOk_of (Rok.str (k := 8 * 9) ?_) (by omega) (by omega)⟩
          rw [show Txt.join (Str.ofString "\n") (t.map rowS) = Str.join (Str.ofString "\n") (t.map rowS) from PySem.StrLaws.glued_eq_join _ _]
          refine (SOk.join (sep := Str.ofString "\n") (l := 1) (k := 8) (.of (by decide +kernel)) fun s hs => ?_).mono (by rw [List.length_map]; omega)
          obtain ⟨r, hr, rfl⟩ := List.mem_map.1 hs
          exact sok_row.mono (by rw [T.row r hr]; exact m8)
        · exact ⟨trivial, by kernel_rfl⟩
      exact ⟨x, π4, rfl, fin.1, fin.2, p4.mono (by omega)⟩
end K01

set_option Elab.async false
set_option linter.all false
set_option maxRecDepth 100000
set_option maxHeartbeats 4000000
namespace K01
open PySem PySem.Spec PyProof.Rows L2 Vf
local macro_rules | `(tactic| walk_at "ks") => `(tactic| simp only [kSO, start0, kSM, kSE, kSV, kSP, kSL, kSG, kD, kC, kIt, kCall, kM1, kPar, kPar3, kSl, kFor, kSto, kTS, kOT, or_self, Option.map_some, Option.bind_some, sset_mk, Nat.reduceAdd, Nat.reduceLeDiff, ↓reduceIte, List.map_cons, List.map_nil, List.cons_append, List.nil_append, List.replicate, List.getElem?_cons_zero, List.getElem?_cons_succ, List.set_cons_zero, List.set_cons_succ, List.length_cons, List.length_nil, List.foldr_cons, List.foldr_nil])
theorem part_tbl' {t : List (List Bool)} {m : Nat} {rs cs : List Nat} (T : Tbl t m) (r0 : rs ≠ []) (c0 : cs ≠ []) (lr : rs.length ≤ 8) (lc : cs.length ≤ 8) : Tbl (partB t rs cs) cs.length := by
  refine ⟨?_, by unfold partB; rw [List.length_map]; exact lr, List.length_pos_iff.2 c0, lc, fun r hr => ?_⟩
  · unfold partB
    rw [List.length_map]
    exact List.length_pos_iff.2 r0
  · obtain ⟨x, _, rfl⟩ := List.mem_map.1 hr
    rw [List.length_map]
def orZ (xs : List Nat) : List Nat := if xs.isEmpty then [0] else xs
theorem orZ_ok {xs : List Nat} {k : Nat} (hk : 1 ≤ k) (nd : xs.Nodup) (h : ∀ x ∈ xs, x < k) (l : xs.length ≤ k) : (orZ xs).Nodup ∧ (∀ x ∈ orZ xs, x < k) ∧ (orZ xs).length ≤ k ∧ orZ xs ≠ [] := by
  cases xs with
  | nil => exact ⟨by simp [orZ], by intro x hx; simp [orZ] at hx; omega, by simp [orZ]; omega, by simp [orZ]⟩
  | cons x xs => exact ⟨nd, h, l, by simp [orZ]⟩
theorem two_lines : eqD (.list [.str "lines", .str "lines"]) (.list [.str "lines", .str "lines"]) = some true := by kernel_rfl
theorem rep_lines (S : Sx) : gRepL S (.new [.str "lines"]) (.d (.int 2)) = some (.new [.str "lines", .str "lines"]) := by kernel_rfl
theorem lines_right {n : Nat} {π : Pen} {t : List (List Bool)} {m : Nat} (T : Tbl t m) (h : PenOk (n + 20) π) : ∃ π', F__law_lines_right [.pen, .d (tabD t)] (some π) = .ok (.d (.bool true)) (some π') ∧ PenOk n π' := by
  have r1 := T.r1
  have r8 := T.r8
  have m1 := T.m1
  have m8 := T.m8
  have l0 : (t.getD 0 []).length = m := T.at r1
  obtain ⟨xs, π1, e1, nx, bx, lx, p1⟩ := some_ok (n := n + 11) (k := t.length) r1 r8 (h.mono (by omega))
  obtain ⟨ys, π2, e2, ny, by', ly, p2⟩ := some_ok (n := n) (k := m) m1 m8 (p1.mono (by omega))
  obtain ⟨dr, br, lr, r0⟩ := orZ_ok r1 nx bx lx
  obtain ⟨dc, bc, lc, c0⟩ := orZ_ok m1 ny by' ly
  unfold F__law_lines_right m__law_lines_right
  walk_at "ks"
  rw [lstR_ok (S1 := ⟨[some (.w .pen), some (.w (.d (tabD t))), none, none, none, none, none], some π⟩) (n := t.length) (by
    walk_at "ks"
    rw [gLen_tab]
    walk_at "ks") (by omega)]
  walk_at "ks"
  rw [rng_intsN, call_pen (n := 3) (ws := [.pen, .new (intsN (List.range t.length)), .d (.int 8)]) (as := [.pen, .d (.list (intsN (List.range t.length))), .d (.int 8)]) rfl rfl rfl e1]
  walk_at "ks"
  rw [lstR_ok (S1 := ⟨[some (.w .pen), some (.w (.d (tabD t))), none, none, none, none, none], some π1⟩) (n := m) (by
    walk_at "ks"
    rw [gIxT_row0 r1]
    walk_at "ks"
    rw [gLen_row (by omega), l0]
    walk_at "ks") (by omega)]
  walk_at "ks"
  rw [rng_intsN, call_pen (n := 3) (ws := [.pen, .new (intsN (List.range m)), .d (.int 8)]) (as := [.pen, .d (.list (intsN (List.range m))), .d (.int 8)]) rfl rfl rfl e2]
  walk_at "ks"
  rw [gTuple_l]
  simp only [kSE]
  have eo : ∀ (xs : List Nat) (S : Sx), orTrK (mTup (mCons (mC (.int 0)) mNil)) (.d (.tuple (intsN xs))) S = .ok (.d (.tuple (intsN (orZ xs)))) S := fun xs S => by
    cases xs with
    | nil => rfl
    | cons x xs => rfl
  rw [eo]
  walk_at "ks"
  rw [gTuple_l]
  simp only [kSE]
  rw [eo]
  walk_at "ks"
  generalize orZ xs = rs at dr br lr r0
  generalize orZ ys = cs at dc bc lc c0
  rw [call_none (n := 3) (ws := [.d (tabD t), .d (.tuple (intsN rs)), .d (.tuple (intsN cs))]) (as := [.d (tabD t), .d (.tuple (intsN rs)), .d (.tuple (intsN cs))]) rfl rfl rfl (part_ok T br bc dr dc r0 c0 (by omega) (by omega))]
  walk_at "ks"
  have TP := part_tbl' T r0 c0 (by omega) (by omega)
  rw [gRepr_ok (x := tabD (partB t rs cs)) rfl (reprOk_of (rok_tab TP) (by omega) (by omega))]
  walk_at "ks"
  rw [call_none (n := 3) (ws := [.d (tabD t), .d (.tuple (intsN rs)), .d (.tuple (intsN cs))]) (as := [.d (tabD t), .d (.tuple (intsN rs)), .d (.tuple (intsN cs))]) rfl rfl rfl (lpart_ok T br bc (by omega) (by omega) (.inl rfl) (.inl rfl))]
  walk_at "ks"
  rw [gRepr_ok (x := tabD (partB t rs cs)) rfl (reprOk_of (rok_tab TP) (by omega) (by omega))]
  walk_at "ks"
  rw [gNe_str, decide_eq_true rfl]
  simp only [Bool.not_true]
  walk_at "ks"
  rw [gLen_tab]
  walk_at "ks"
  obtain ⟨o1, f1, g1⟩ := odd_lines r1 r8
  obtain ⟨o2, f2, g2⟩ := odd_lines m1 m8
  rw [call_none (n := 1) (ws := [.d (.int (t.length : Int))]) (as := [.d (.int (t.length : Int))]) rfl rfl rfl f1]
  walk_at "ks"
  have fcs : Fine (.tuple (intsN cs)) := ⟨by rw [List.length_map]; omega, fun s hs => by obtain ⟨c, _, e⟩ := mem_intsN hs; cases e⟩
  have frs : Fine (.tuple (intsN rs)) := ⟨by rw [List.length_map]; omega, fun s hs => by obtain ⟨c, _, e⟩ := mem_intsN hs; cases e⟩
  obtain ⟨S1, el, ⟨a4, a5, a6, rfl, _⟩⟩ := loop_inv (t := .one 4) (body := (mSeq (mSet 5 (mFn gRepr (mCons (mVar 4) (mNil))))
    (mSeq (mSetO 6 (mLst (mCons (mWord wd__law_word (mCall 3 F_part (mCons (mVar 1) (mCons (mVar 4) (mCons (mC .none) (mNil)))))) (mCons (mC (.str "")) (mNil)))))
    (mSeq (mSetItem 6 (mWord wd__law_word (mCall 3 F_part (mCons (mVar 1) (mCons (mVar 4) (mCons (mVar 3) (mNil)))))) (mC (.int 1)))
    (mIfS (mOrT (mTest (mBin gNe (mVar 6) (mBin gRepL (mLst (mCons (mC (.str "lines")) (mNil))) (mC (.int 2))))) (mTest (mBin gNe (mFn gRepr (mCons (mVar 4) (mNil))) (mVar 5)))) (mRet (mC (.bool false))) (mSkip))))))
    (fun ds S => ∃ (a4 a5 a6 : Option Cell), S = ⟨[some (.w .pen), some (.w (.d (tabD t))), some (.w (.d (.tuple (intsN rs)))), some (.w (.d (.tuple (intsN cs)))), a4, a5, a6], some π2⟩ ∧ ∀ d ∈ ds, Fine d ∧ reprOk d = true ∧ areLn (t.length : Int) d = false)
    (by
      rintro d ds S ⟨a4, a5, a6, rfl, hd⟩
      obtain ⟨fd, rd, ad⟩ := hd d (List.mem_cons_self ..)
      refine ⟨_, rfl, .inl ?_⟩
      walk_at "ks"
      rw [gRepr_ok (x := d) rfl rd]
      walk_at "ks"
      rw [word_ex (S1 := ⟨[some (.w .pen), some (.w (.d (tabD t))), some (.w (.d (.tuple (intsN rs)))), some (.w (.d (.tuple (intsN cs)))), some (.w (.d d)), some (.w (.d (.str d.shown))), a6], some π2⟩) (c := 1) (w := "lines") (by
        walk_at "ks"
        exact call_none_ex (n := 3) (ws := [.d (tabD t), .d d, .d .none]) (as := [.d (tabD t), .d d, .d .none]) rfl rfl rfl (part_lines T fd trivial (.inl ad))) rfl]
      walk_at "ks"
      rw [setitem_ok (i := 6) (me := mWord wd__law_word (mCall 3 F_part (mCons (mVar 1) (mCons (mVar 4) (mCons (mVar 3) (mNil)))))) (mk := mC (.int 1)) (S := ⟨[some (.w .pen), some (.w (.d (tabD t))), some (.w (.d (.tuple (intsN rs)))), some (.w (.d (.tuple (intsN cs)))), some (.w (.d d)), some (.w (.d (.str d.shown))), some (.lst [.str "lines", .str ""])], some π2⟩) (S1 := ⟨[some (.w .pen), some (.w (.d (tabD t))), some (.w (.d (.tuple (intsN rs)))), some (.w (.d (.tuple (intsN cs)))), some (.w (.d d)), some (.w (.d (.str d.shown))), some (.lst [.str "lines", .str ""])], some π2⟩) (S2 := ⟨[some (.w .pen), some (.w (.d (tabD t))), some (.w (.d (.tuple (intsN rs)))), some (.w (.d (.tuple (intsN cs)))), some (.w (.d d)), some (.w (.d (.str d.shown))), some (.lst [.str "lines", .str ""])], some π2⟩) (ds := [.str "lines", .str ""]) (w := .d (.str "lines")) (x := .str "lines") (k := 1) (word_ex (c := 1) (by
        walk_at "ks"
        exact call_none_ex (n := 3) (ws := [.d (tabD t), .d d, .d (.tuple (intsN cs))]) (as := [.d (tabD t), .d d, .d (.tuple (intsN cs))]) rfl rfl rfl (part_lines T fd fcs (.inl ad))) rfl) rfl rfl rfl rfl (by decide)]
      walk_at "ks"
      rw [rep_lines]
      walk_at "ks"
      rw [gNe_of (x := .list [.str "lines", .str "lines"]) (y := .list [.str "lines", .str "lines"]) (dview_own rfl) rfl two_lines]
      simp only [Bool.not_true]
      walk_at "ks"
      rw [gRepr_ok (x := d) rfl rd]
      walk_at "ks"
      rw [gNe_str, decide_eq_true rfl]
      simp only [Bool.not_true]
      walk_at "ks"
      exact ⟨_, rfl, _, _, _, rfl, fun d' hd' => hd d' (List.mem_cons_of_mem _ hd')⟩)
    o1 ⟨[some (.w .pen), some (.w (.d (tabD t))), some (.w (.d (.tuple (intsN rs)))), some (.w (.d (.tuple (intsN cs)))), none, none, none], some π2⟩ ⟨none, none, none, rfl, g1⟩
  rw [el]
  walk_at "ks"
  rw [gIxT_row0 r1]
  walk_at "ks"
  rw [gLen_row (by omega), l0]
  walk_at "ks"
  rw [call_none (n := 1) (ws := [.d (.int (m : Int))]) (as := [.d (.int (m : Int))]) rfl rfl rfl f2]
  walk_at "ks"
  obtain ⟨S2, el2, ⟨b4, b5, b6, rfl, _⟩⟩ := loop_inv (t := .one 4) (body := (mSeq (mSet 5 (mFn gRepr (mCons (mVar 4) (mNil))))
    (mIfS (mOrT (mTest (mBin gNe (mWord wd__law_word (mCall 3 F_part (mCons (mVar 1) (mCons (mVar 2) (mCons (mVar 4) (mNil)))))) (mC (.str "lines")))) (mTest (mBin gNe (mFn gRepr (mCons (mVar 4) (mNil))) (mVar 5)))) (mRet (mC (.bool false))) (mSkip))))
    (fun ds S => ∃ (a4 a5 a6 : Option Cell), S = ⟨[some (.w .pen), some (.w (.d (tabD t))), some (.w (.d (.tuple (intsN rs)))), some (.w (.d (.tuple (intsN cs)))), a4, a5, a6], some π2⟩ ∧ ∀ d ∈ ds, Fine d ∧ reprOk d = true ∧ areLn (m : Int) d = false)
    (by
      rintro d ds S ⟨a4, a5, a6, rfl, hd⟩
      obtain ⟨fd, rd, ad⟩ := hd d (List.mem_cons_self ..)
      refine ⟨_, rfl, .inl ?_⟩
      walk_at "ks"
      rw [gRepr_ok (x := d) rfl rd]
      walk_at "ks"
      rw [word_ex (S1 := ⟨[some (.w .pen), some (.w (.d (tabD t))), some (.w (.d (.tuple (intsN rs)))), some (.w (.d (.tuple (intsN cs)))), some (.w (.d d)), some (.w (.d (.str d.shown))), a6], some π2⟩) (c := 1) (w := "lines") (by
        walk_at "ks"
        exact call_none_ex (n := 3) (ws := [.d (tabD t), .d (.tuple (intsN rs)), .d d]) (as := [.d (tabD t), .d (.tuple (intsN rs)), .d d]) rfl rfl rfl (part_lines T frs fd (.inr ad))) rfl]
      walk_at "ks"
      rw [gNe_str, decide_eq_true rfl]
      simp only [Bool.not_true]
      walk_at "ks"
      rw [gRepr_ok (x := d) rfl rd]
      walk_at "ks"
      rw [gNe_str, decide_eq_true rfl]
      simp only [Bool.not_true]
      walk_at "ks"
      exact ⟨_, rfl, _, _, _, rfl, fun d' hd' => hd d' (List.mem_cons_of_mem _ hd')⟩)
    o2 ⟨[some (.w .pen), some (.w (.d (tabD t))), some (.w (.d (.tuple (intsN rs)))), some (.w (.d (.tuple (intsN cs)))), a4, a5, a6], some π2⟩ ⟨_, _, _, rfl, g2⟩
  rw [el2]
  walk_at "ks"
  exact ⟨π2, rfl, p2⟩
end K01

set_option Elab.async false
set_option linter.all false
set_option maxRecDepth 100000
set_option maxHeartbeats 4000000
namespace K01
open PySem PySem.Spec PyProof.Rows L2 Vf
local macro_rules | `(tactic| walk_at "ks") => `(tactic| simp only [kSO, start0, kSM, kSE, kSV, kSP, kSL, kSG, kD, kC, kIt, kCall, kM1, kPar, kPar3, kSl, kFor, kSto, kTS, kOT, or_self, Option.map_some, Option.bind_some, sset_mk, Nat.reduceAdd, Nat.reduceLeDiff, ↓reduceIte, List.map_cons, List.map_nil, List.cons_append, List.nil_append, List.replicate, List.getElem?_cons_zero, List.getElem?_cons_succ, List.set_cons_zero, List.set_cons_succ, List.length_cons, List.length_nil, List.foldr_cons, List.foldr_nil])
theorem getD_of {α : Type} {xs : List α} {k : Nat} {d : α} (h : k < xs.length) : xs.getD k d = xs[k] := by
  rw [List.getD_eq_getElem?_getD, List.getElem?_eq_getElem h, Option.getD_some]
theorem turn_turn {t : List (List Bool)} {m : Nat} (T : Tbl t m) : turnB (turnB t) = t := by
  have r1 := T.r1
  have l0 : (t.getD 0 []).length = m := T.at r1
  have m1 := T.m1
  have lt : (turnB t).length = m := by unfold turnB; rw [List.length_map, List.length_range, l0]
  have l0' : ((turnB t).getD 0 []).length = t.length := (turn_tbl T).at (by omega)
  have row : ∀ c, c < m → (turnB t).getD c [] = t.map fun r => r.getD c false := fun c hc => by
    rw [getD_of (by omega)]
    unfold turnB
    rw [List.getElem_map, List.getElem_range]
  refine List.ext_getElem ?_ fun i h1 h2 => ?_
  · rw [show turnB (turnB t) = (List.range ((turnB t).getD 0 []).length).map fun c => (turnB t).map fun r => r.getD c false from rfl, List.length_map, List.length_range, l0']
  · have e1 : (turnB (turnB t))[i] = (turnB t).map fun r => r.getD i false := by
      have : turnB (turnB t) = (List.range ((turnB t).getD 0 []).length).map fun c => (turnB t).map fun r => r.getD c false := rfl
      simp only [this, List.getElem_map, List.getElem_range]
    rw [e1]
    have lti : t[i].length = m := T.row _ (List.getElem_mem h2)
    refine List.ext_getElem ?_ fun j h3 h4 => ?_
    · rw [List.length_map, lt, lti]
    · rw [List.getElem_map]
      have hj : j < m := by rw [lti] at h4; exact h4
      have e2 : (turnB t)[j]'(by omega) = t.map fun r => r.getD j false := by
        rw [← row j hj, getD_of (by omega)]
      rw [e2, getD_of (by rw [List.length_map]; exact h2), List.getElem_map, getD_of h4]
theorem shown_ticks {t : List (List Bool)} {m : Nat} (T : Tbl t m) : reprOk (.list (ticksB t m)) = true := by
  have r8 := T.r8
  have m8 := T.m8
  have ln : (ticksB t m).length ≤ t.length * 8 := by
    unfold ticksB
    rw [List.length_flatMap]
    have : ∀ l : List Nat, (l.map fun r => ((hadB (t.getD r []) (List.range m)).map fun c => PyData.tuple [.int ((r : Nat) : Int), .int ((c : Nat) : Int)]).length).sum ≤ l.length * 8 := by
      intro l
      induction l with
      | nil => simp
      | cons x l ih =>
        rw [List.map_cons, List.sum_cons, List.length_cons, List.length_map]
        have : (hadB (t.getD x []) (List.range m)).length ≤ 8 := Nat.le_trans (List.length_filter_le _ _) (by rw [List.length_range]; exact m8)
        omega
    have := this (List.range t.length)
    rw [List.length_range] at this
    exact this
  refine reprOk_of (Rok.lst (dp := 1) (w := 22) fun d hd => ?_) (by omega) (by omega)
  obtain ⟨r, hr, hd⟩ := List.mem_flatMap.1 hd
  obtain ⟨c, hc, rfl⟩ := List.mem_map.1 hd
  have hr' := List.mem_range.1 hr
  have hc' := List.mem_range.1 (List.mem_filter.1 (by unfold hadB at hc; exact hc)).1
  refine (Rok.tup (dp := 0) (w := 10) fun d hd => ?_).mono (by omega) (by simp)
  simp only [List.mem_cons, List.not_mem_nil, or_false] at hd
  rcases hd with rfl | rfl
  · exact Rok.nat (by omega)
  · exact Rok.nat (by omega)
/-- the places found row by row -/
def dueB (t : List (List Bool)) (m : Nat) (done : List PyData) : List PyData := done.flatMap fun d => (intsN (hadB (t.getD (natD d) []) (List.range m))).map fun e => .tuple [d, e]
theorem due_all {t : List (List Bool)} {m : Nat} : dueB t m (rngD 0 t.length) = ticksB t m := by
  unfold dueB ticksB rngD
  rw [List.flatMap_map]
  refine flatMap_ext fun r hr => ?_
  rw [Int.zero_add, natD_int, List.map_map]
  rfl
theorem filter_pairs (p : Nat → Bool) (x : PyData) : ∀ cs : List Nat, (intsN cs).filterMap (fun d => if p (natD d) then some (PyData.tuple [x, d]) else none) = (intsN (cs.filter p)).map fun e => PyData.tuple [x, e]
  | [] => rfl
  | c :: cs => by
    show List.filterMap _ (PyData.int (c : Int) :: intsN cs) = _
    rw [List.filterMap_cons, natD_int, List.filter_cons]
    cases p c with
    | true =>
      rw [if_pos rfl, if_pos rfl]
      show _ :: _ = _ :: _
      rw [filter_pairs p x cs]
    | false =>
      rw [if_neg (by decide), if_neg (by decide)]
      exact filter_pairs p x cs
end K01

set_option Elab.async false
set_option linter.all false
set_option maxRecDepth 100000
set_option maxHeartbeats 4000000
namespace K01
open PySem PySem.Spec PyProof.Rows L2 Vf
local macro_rules | `(tactic| walk_at "ks") => `(tactic| simp only [kSO, start0, kSM, kSE, kSV, kSP, kSL, kSG, kD, kC, kIt, kCall, kM1, kPar, kPar3, kSl, kFor, kSto, kTS, kOT, or_self, Option.map_some, Option.bind_some, sset_mk, Nat.reduceAdd, Nat.reduceLeDiff, ↓reduceIte, List.map_cons, List.map_nil, List.cons_append, List.nil_append, List.replicate, List.getElem?_cons_zero, List.getElem?_cons_succ, List.set_cons_zero, List.set_cons_succ, List.length_cons, List.length_nil, List.foldr_cons, List.foldr_nil])
def b_row : MS := (mFor (.one 4) (mItR1 (mFn gLen (mCons (mVar 3) (mNil)))) (mSet 8 (mBin gCatL (mVar 8) (mComp (.one 13) [13] (mItR1 (mFn gLen (mCons (mBin gIxT (mVar 3) (mC (.int 0))) (mNil)))) (mTest (mBin gEq (mBin gIxS (mBin gIxT (mVar 3) (mVar 4)) (mVar 13)) (mC (.str "x")))) (mTup (mCons (mVar 4) (mCons (mVar 13) (mNil))))))))
def b_again : MS := (mFor (.one 5) (mItR1 (mC (.int 2))) (mSeq (mSetO 9 (mCall 1 F_ticks (mCons (mVar 3) (mNil))))
    (mSeq (mIfS (mOrT (mTest (mBin (gIsB true) (mCall 1 F_is_table (mCons (mVar 3) (mNil))) (mC (.bool true)))) (mTest (mBin gNe (mFn gRepr (mCons (mVar 9) (mNil))) (mFn gRepr (mCons (mVar 8) (mNil)))))) (mRet (mC (.bool false))) (mSkip))
    (mAppend 9 (mC .none)))))
theorem due_one {t : List (List Bool)} {m r : Nat} {done : List PyData} : dueB t m (done ++ [.int (r : Int)]) = dueB t m done ++ (intsN (hadB (t.getD r []) (List.range m))).map fun e => PyData.tuple [.int (r : Int), e] := by
  unfold dueB
  rw [List.flatMap_append, List.flatMap_cons, List.flatMap_nil, List.append_nil, natD_int]
theorem due_len {t : List (List Bool)} {m : Nat} (h : m ≤ 8) : ∀ done : List PyData, (dueB t m done).length ≤ done.length * 8
  | [] => Nat.zero_le _
  | d :: done => by
    show (dueB t m ([d] ++ done)).length ≤ _
    unfold dueB
    rw [List.flatMap_append, List.length_append, List.flatMap_cons, List.flatMap_nil, List.append_nil, List.length_map, List.length_map]
    have := due_len (t := t) h done
    unfold dueB at this
    have : (hadB (t.getD (natD d) []) (List.range m)).length ≤ 8 := Nat.le_trans (List.length_filter_le _ _) (by rw [List.length_range]; exact h)
    rw [List.length_cons]
    omega
theorem row_run {t : List (List Bool)} {m : Nat} {o0 o1 o2 o4 o5 o6 o7 o9 o10 o11 o12 o13 : Option Cell} {p : Option Pen} (T : Tbl t m) :
    ∃ a4, b_row ⟨[o0, o1, o2, some (.w (.d (tabD t))), o4, o5, o6, o7, some (.w (.d (.list []))), o9, o10, o11, o12, none], p⟩ = .nx ⟨[o0, o1, o2, some (.w (.d (tabD t))), a4, o5, o6, o7, some (.w (.d (.list (ticksB t m)))), o9, o10, o11, o12, none], p⟩ := by
  have r1 := T.r1
  have r8 := T.r8
  have m8 := T.m8
  have l0 : (t.getD 0 []).length = m := T.at r1
  unfold b_row
  walk_at "ks"
  rw [gLen_tab]
  walk_at "ks"
  rw [rg1_ok (by omega)]
  walk_at "ks"
  obtain ⟨S', el, a4, rfl⟩ := loop_pre (t := .one 4) (body := (mSet 8 (mBin gCatL (mVar 8) (mComp (.one 13) [13] (mItR1 (mFn gLen (mCons (mBin gIxT (mVar 3) (mC (.int 0))) (mNil)))) (mTest (mBin gEq (mBin gIxS (mBin gIxT (mVar 3) (mVar 4)) (mVar 13)) (mC (.str "x")))) (mTup (mCons (mVar 4) (mCons (mVar 13) (mNil)))))))) (rngD 0 t.length)
    (fun done S => ∃ a4, S = ⟨[o0, o1, o2, some (.w (.d (tabD t))), a4, o5, o6, o7, some (.w (.d (.list (dueB t m done)))), o9, o10, o11, o12, none], p⟩)
    (by
      rintro done d rest S eq ⟨a4, rfl⟩
      have hd : d ∈ rngD 0 t.length := by rw [← eq]; simp
      obtain ⟨r, rfl, hr⟩ := mem_rngD hd
      have lr : (t.getD r []).length = m := T.at hr
      have hlen : done.length ≤ 7 := by
        have := congrArg List.length eq
        rw [List.length_append, List.length_cons, rngD_len] at this
        omega
      refine ⟨_, rfl, _, ?_, some (.w (.d (.int (r : Int)))), rfl⟩
      walk_at "ks"
      rw [comp_go (S1 := ⟨[o0, o1, o2, some (.w (.d (tabD t))), some (.w (.d (.int (r : Int)))), o5, o6, o7, some (.w (.d (.list (dueB t m done)))), o9, o10, o11, o12, none], p⟩) (ds := rngD 0 m) (g := fun e => if (t.getD r []).getD (natD e) false then some (PyData.tuple [.int (r : Int), e]) else none) (by
        walk_at "ks"
        rw [gIxT_row0 r1]
        walk_at "ks"
        rw [gLen_row (by omega), l0]
        walk_at "ks"
        rw [rg1_ok (by omega)]
        rfl) rfl (by rw [rngD_len]; omega) (fun e he => by
          obtain ⟨c, rfl, hc⟩ := mem_rngD he
          rw [natD_int]
          cases hb : (t.getD r []).getD c false with
          | true =>
            refine cstep_t (x := .tuple [.int (r : Int), .int (c : Int)]) rfl ?_ ?_ rfl
            · walk_at "ks"
              rw [gIxT_row hr]
              walk_at "ks"
              rw [gIxS_row (by rw [lr]; exact hc) (by omega), hb]
              walk_at "ks"
              rw [gEq_tick]
              rfl
            · walk_at "ks"
          | false =>
            refine cstep_f rfl ?_ rfl
            walk_at "ks"
            rw [gIxT_row hr]
            walk_at "ks"
            rw [gIxS_row (by rw [lr]; exact hc) (by omega), hb]
            walk_at "ks"
            rw [gEq_tick]
            rfl)]
      walk_at "ks"
      rw [show rngD 0 m = intsN (List.range m) from (rng_intsN m).symm ▸ rfl, filter_pairs (fun c => (t.getD r []).getD c false) (.int (r : Int)) (List.range m)]
      rw [gCatL_ok (a := dueB t m done) (b := (intsN (hadB (t.getD r []) (List.range m))).map fun e => PyData.tuple [.int (r : Int), e]) rfl rfl (by
        have e1 := due_len (t := t) m8 done
        have e2 : ((intsN (hadB (t.getD r []) (List.range m))).map fun e => PyData.tuple [.int (r : Int), e]).length ≤ 8 := by
          rw [List.length_map, List.length_map]
          exact Nat.le_trans (List.length_filter_le _ _) (by rw [List.length_range]; exact m8)
        omega)]
      walk_at "ks"
      rw [due_one])
    ⟨[o0, o1, o2, some (.w (.d (tabD t))), o4, o5, o6, o7, some (.w (.d (.list []))), o9, o10, o11, o12, none], p⟩ ⟨o4, rfl⟩
  rw [el, due_all]
  exact ⟨a4, rfl⟩
theorem ticks_len {t : List (List Bool)} {m : Nat} (T : Tbl t m) : (ticksB t m).length ≤ 64 := by
  have := due_len (t := t) T.m8 (rngD 0 t.length)
  rw [due_all, rngD_len] at this
  have := T.r8
  omega
theorem again_run {t : List (List Bool)} {m : Nat} {o0 o1 o2 o4 o5 o6 o7 o9 o10 o11 o12 o13 : Option Cell} {p : Option Pen} (T : Tbl t m) :
    ∃ a5 a9, b_again ⟨[o0, o1, o2, some (.w (.d (tabD t))), o4, o5, o6, o7, some (.w (.d (.list (ticksB t m)))), o9, o10, o11, o12, none], p⟩ = .nx ⟨[o0, o1, o2, some (.w (.d (tabD t))), o4, a5, o6, o7, some (.w (.d (.list (ticksB t m)))), a9, o10, o11, o12, none], p⟩ := by
  unfold b_again
  walk_at "ks"
  rw [show rg1 (.d (.int 2)) = some (rngD 0 2) from rg1_ok (n := 2) (by decide)]
  walk_at "ks"
  obtain ⟨S', el, a5, a9, rfl⟩ := loop_inv (t := .one 5) (body := mSeq (mSetO 9 (mCall 1 F_ticks (mCons (mVar 3) (mNil))))
    (mSeq (mIfS (mOrT (mTest (mBin (gIsB true) (mCall 1 F_is_table (mCons (mVar 3) (mNil))) (mC (.bool true)))) (mTest (mBin gNe (mFn gRepr (mCons (mVar 9) (mNil))) (mFn gRepr (mCons (mVar 8) (mNil)))))) (mRet (mC (.bool false))) (mSkip))
    (mAppend 9 (mC .none))))
    (fun ds S => ∃ a5 a9, S = ⟨[o0, o1, o2, some (.w (.d (tabD t))), o4, a5, o6, o7, some (.w (.d (.list (ticksB t m)))), a9, o10, o11, o12, none], p⟩)
    (by
      rintro d ds S ⟨a5, a9, rfl⟩
      refine ⟨_, rfl, .inl ?_⟩
      walk_at "ks"
      rw [call_none (n := 1) (ws := [.d (tabD t)]) (as := [.d (tabD t)]) rfl rfl rfl (ticks_ok T)]
      walk_at "ks"
      rw [call_none (n := 1) (ws := [.d (tabD t)]) (as := [.d (tabD t)]) rfl rfl rfl (table_ok (fine_tab T)), isTab_iff t m T]
      walk_at "ks"
      simp only [decide_true, Bool.not_true]
      walk_at "ks"
      rw [gRepr_ok (x := .list (ticksB t m)) rfl (shown_ticks T)]
      walk_at "ks"
      rw [gRepr_ok (x := .list (ticksB t m)) rfl (shown_ticks T)]
      walk_at "ks"
      rw [gNe_str, decide_eq_true rfl]
      simp only [Bool.not_true]
      walk_at "ks"
      rw [app_ok (i := 9) (me := mC .none) (S := ⟨[o0, o1, o2, some (.w (.d (tabD t))), o4, some (.w (.d d)), o6, o7, some (.w (.d (.list (ticksB t m)))), some (.lst (ticksB t m)), o10, o11, o12, none], p⟩) (S1 := ⟨[o0, o1, o2, some (.w (.d (tabD t))), o4, some (.w (.d d)), o6, o7, some (.w (.d (.list (ticksB t m)))), some (.lst (ticksB t m)), o10, o11, o12, none], p⟩) (ds := ticksB t m) (ds1 := ticksB t m) (w := .d .none) (x := .none) rfl rfl rfl rfl (by
        have := ticks_len T
        omega)]
      exact ⟨_, rfl, _, _, rfl⟩)
    (rngD 0 2) ⟨[o0, o1, o2, some (.w (.d (tabD t))), o4, o5, o6, o7, some (.w (.d (.list (ticksB t m)))), o9, o10, o11, o12, none], p⟩ ⟨o5, o9, rfl⟩
  rw [el]
  exact ⟨a5, a9, rfl⟩
end K01

set_option Elab.async false
set_option linter.all false
set_option maxRecDepth 100000
set_option maxHeartbeats 4000000
namespace K01
open PySem PySem.Spec PyProof.Rows L2 Vf
local macro_rules | `(tactic| walk_at "ks") => `(tactic| simp only [kSO, start0, kSM, kSE, kSV, kSP, kSL, kSG, kD, kC, kIt, kCall, kM1, kPar, kPar3, kSl, kFor, kSto, kTS, kOT, or_self, Option.map_some, Option.bind_some, sset_mk, Nat.reduceAdd, Nat.reduceLeDiff, ↓reduceIte, List.map_cons, List.map_nil, List.cons_append, List.nil_append, List.replicate, List.getElem?_cons_zero, List.getElem?_cons_succ, List.set_cons_zero, List.set_cons_succ, List.length_cons, List.length_nil, List.foldr_cons, List.foldr_nil])
def b_turn : MS := (mIfS (mOrT (mTest (mBin gNe (mFn gRepr (mCons (mCall 1 F_turned (mCons (mVar 3) (mNil))) (mNil))) (mFn gRepr (mCons (mCall 1 F__law_turned (mCons (mVar 3) (mNil))) (mNil))))) (mTest (mBin gNe (mFn gRepr (mCons (mCall 1 F_turned (mCons (mCall 1 F_turned (mCons (mVar 3) (mNil))) (mNil))) (mNil))) (mVar 7)))) (mRet (mC (.bool false))) (mSkip))
def b_lines : MS := (mIfS (mOrT (mNotT (mTest (mCall 2 F__law_lines_right (mCons (mVar 1) (mCons (mVar 3) (mNil)))))) (mTest (mBin gNe (mFn gRepr (mCons (mVar 3) (mNil))) (mVar 7)))) (mRet (mC (.bool false))) (mSkip))
def b_bent : MS := (mFor (.one 5) (mItR1 (mC (.int 6))) (mSeq (mSet 10 (mCall 2 F__law_bent (mCons (mVar 1) (mCons (mVar 3) (mNil)))))
    (mSeq (mSet 11 (mFn gRepr (mCons (mVar 10) (mNil))))
    (mIfS (mOrT (mTest (mBin gNe (mFn gRepr (mCons (mCall 1 F_is_table (mCons (mVar 10) (mNil))) (mNil))) (mFn gRepr (mCons (mCall 1 F__law_is_table (mCons (mVar 10) (mNil))) (mNil))))) (mTest (mBin gNe (mFn gRepr (mCons (mVar 10) (mNil))) (mVar 11)))) (mRet (mC (.bool false))) (mSkip)))))
def b_odd : MS := (mFor (.one 6) (mItL (mCall 1 F__law_odd_tables (mCons (mVar 3) (mNil)))) (mSeq (mPar true false 12 11 (mLst (mCons (mWord wd__law_word (mCall 1 F_turned (mCons (mVar 6) (mNil)))) (mCons (mC (.str "")) (mNil)))) (mFn gRepr (mCons (mVar 6) (mNil))))
    (mSeq (mSetItem 12 (mWord wd__law_word (mCall 1 F_ticks (mCons (mVar 6) (mNil)))) (mC (.int 1)))
    (mSeq (mAppend 12 (mWord wd__law_word (mCall 3 F_part (mCons (mVar 6) (mCons (mC .none) (mCons (mC .none) (mNil)))))))
    (mIfS (mOrT (mTest (mBin (gIsB true) (mCall 1 F_is_table (mCons (mVar 6) (mNil))) (mC (.bool false)))) (mOrT (mTest (mBin gNe (mVar 12) (mBin gRepL (mLst (mCons (mC (.str "table")) (mNil))) (mC (.int 3))))) (mTest (mBin gNe (mFn gRepr (mCons (mVar 6) (mNil))) (mVar 11))))) (mRet (mC (.bool false))) (mSkip))))))
theorem tab_rok {t : List (List Bool)} {m : Nat} (T : Tbl t m) : reprOk (tabD t) = true := reprOk_of (rok_tab T) (by have := T.m8; omega) (by have := T.m8; have := T.r8; omega)
theorem bool_rok (b : Bool) : reprOk (.bool b) = true := by cases b <;> decide +kernel
section
variable {t : List (List Bool)} {m : Nat} {o0 o2 o4 o5 o6 o8 o9 o10 o11 o12 o13 : Option Cell} {π : Pen}
theorem turn_run {o1 : Option Cell} {p : Option Pen} (T : Tbl t m) :
    b_turn ⟨[o0, o1, o2, some (.w (.d (tabD t))), o4, o5, o6, some (.w (.d (.str (tabD t).shown))), o8, o9, o10, o11, o12, o13], p⟩ = .nx ⟨[o0, o1, o2, some (.w (.d (tabD t))), o4, o5, o6, some (.w (.d (.str (tabD t).shown))), o8, o9, o10, o11, o12, o13], p⟩ := by
  unfold b_turn
  walk_at "ks"
  rw [call_none (n := 1) (ws := [.d (tabD t)]) (as := [.d (tabD t)]) rfl rfl rfl (turned_ok T)]
  walk_at "ks"
  rw [gRepr_ok (x := tabD (turnB t)) rfl (tab_rok (turn_tbl T))]
  walk_at "ks"
  rw [call_none (n := 1) (ws := [.d (tabD t)]) (as := [.d (tabD t)]) rfl rfl rfl (lturned_ok T)]
  walk_at "ks"
  rw [gRepr_ok (x := tabD (turnB t)) rfl (tab_rok (turn_tbl T))]
  walk_at "ks"
  rw [gNe_str, decide_eq_true rfl]
  simp only [Bool.not_true]
  walk_at "ks"
  rw [call_none (n := 1) (ws := [.d (tabD t)]) (as := [.d (tabD t)]) rfl rfl rfl (turned_ok T)]
  walk_at "ks"
  rw [call_none (n := 1) (ws := [.d (tabD (turnB t))]) (as := [.d (tabD (turnB t))]) rfl rfl rfl (turned_ok (turn_tbl T)), turn_turn T]
  walk_at "ks"
  rw [gRepr_ok (x := tabD t) rfl (tab_rok T)]
  walk_at "ks"
  rw [gNe_str, decide_eq_true rfl]
  simp only [Bool.not_true]
  walk_at "ks"
theorem lines_run {n : Nat} (T : Tbl t m) (h : PenOk (n + 20) π) :
    ∃ π', b_lines ⟨[o0, some (.w .pen), o2, some (.w (.d (tabD t))), o4, o5, o6, some (.w (.d (.str (tabD t).shown))), o8, o9, o10, o11, o12, o13], some π⟩ = .nx ⟨[o0, some (.w .pen), o2, some (.w (.d (tabD t))), o4, o5, o6, some (.w (.d (.str (tabD t).shown))), o8, o9, o10, o11, o12, o13], some π'⟩ ∧ PenOk n π' := by
  obtain ⟨π', e, p⟩ := lines_right T h
  refine ⟨π', ?_, p⟩
  unfold b_lines
  walk_at "ks"
  rw [call_pen (n := 2) (ws := [.pen, .d (tabD t)]) (as := [.pen, .d (tabD t)]) rfl rfl rfl e]
  walk_at "ks"
  simp only [Bool.not_true]
  walk_at "ks"
  rw [gRepr_ok (x := tabD t) rfl (tab_rok T)]
  walk_at "ks"
  rw [gNe_str, decide_eq_true rfl]
  simp only [Bool.not_true]
  walk_at "ks"
theorem bent_run {n : Nat} (T : Tbl t m) (h : PenOk (n + 60) π) :
    ∃ a5 a10 a11 π', b_bent ⟨[o0, some (.w .pen), o2, some (.w (.d (tabD t))), o4, o5, o6, some (.w (.d (.str (tabD t).shown))), o8, o9, o10, o11, o12, o13], some π⟩ = .nx ⟨[o0, some (.w .pen), o2, some (.w (.d (tabD t))), o4, a5, o6, some (.w (.d (.str (tabD t).shown))), o8, o9, a10, a11, o12, o13], some π'⟩ ∧ PenOk n π' := by
  unfold b_bent
  walk_at "ks"
  rw [show rg1 (.d (.int 6)) = some (rngD 0 6) from rg1_ok (n := 6) (by decide)]
  walk_at "ks"
  obtain ⟨S', el, a5, a10, a11, π', rfl, hp⟩ := loop_inv (t := .one 5) (body := mSeq (mSet 10 (mCall 2 F__law_bent (mCons (mVar 1) (mCons (mVar 3) (mNil)))))
    (mSeq (mSet 11 (mFn gRepr (mCons (mVar 10) (mNil))))
    (mIfS (mOrT (mTest (mBin gNe (mFn gRepr (mCons (mCall 1 F_is_table (mCons (mVar 10) (mNil))) (mNil))) (mFn gRepr (mCons (mCall 1 F__law_is_table (mCons (mVar 10) (mNil))) (mNil))))) (mTest (mBin gNe (mFn gRepr (mCons (mVar 10) (mNil))) (mVar 11)))) (mRet (mC (.bool false))) (mSkip))))
    (fun ds S => ∃ a5 a10 a11 π', S = ⟨[o0, some (.w .pen), o2, some (.w (.d (tabD t))), o4, a5, o6, some (.w (.d (.str (tabD t).shown))), o8, o9, a10, a11, o12, o13], some π'⟩ ∧ PenOk (n + 10 * ds.length) π')
    (by
      rintro d ds S ⟨a5, a10, a11, π1, rfl, hp⟩
      obtain ⟨x, π2, e, fx, rx, p2⟩ := bent_ok (n := n + 10 * ds.length) T (hp.mono (by rw [List.length_cons]; omega))
      refine ⟨_, rfl, .inl ?_⟩
      walk_at "ks"
      rw [call_pen (n := 2) (ws := [.pen, .d (tabD t)]) (as := [.pen, .d (tabD t)]) rfl rfl rfl e]
      walk_at "ks"
      rw [gRepr_ok (x := x) rfl rx]
      walk_at "ks"
      rw [call_none (n := 1) (ws := [.d x]) (as := [.d x]) rfl rfl rfl (table_ok fx)]
      walk_at "ks"
      rw [gRepr_ok (x := .bool (isTabD x)) rfl (bool_rok _)]
      walk_at "ks"
      rw [call_none (n := 1) (ws := [.d x]) (as := [.d x]) rfl rfl rfl (ltable_ok fx)]
      walk_at "ks"
      rw [gRepr_ok (x := .bool (isTabD x)) rfl (bool_rok _)]
      walk_at "ks"
      rw [gNe_str, decide_eq_true rfl]
      simp only [Bool.not_true]
      walk_at "ks"
      rw [gRepr_ok (x := x) rfl rx]
      walk_at "ks"
      rw [gNe_str, decide_eq_true rfl]
      simp only [Bool.not_true]
      walk_at "ks"
      exact ⟨_, rfl, _, _, _, _, rfl, p2⟩)
    (rngD 0 6) ⟨[o0, some (.w .pen), o2, some (.w (.d (tabD t))), o4, o5, o6, some (.w (.d (.str (tabD t).shown))), o8, o9, o10, o11, o12, o13], some π⟩ ⟨_, _, _, _, rfl, by rw [rngD_len]; exact h⟩
  rw [el]
  exact ⟨_, _, _, _, rfl, hp⟩
theorem three_tables : eqD (.list [.str "table", .str "table", .str "table"]) (.list [.str "table", .str "table", .str "table"]) = some true := by kernel_rfl
theorem rep_tables (S : Sx) : gRepL S (.new [.str "table"]) (.d (.int 3)) = some (.new [.str "table", .str "table", .str "table"]) := by kernel_rfl
theorem odd_run {o1 : Option Cell} {p : Option Pen} (T : Tbl t m) :
    ∃ a6 a11 a12, b_odd ⟨[o0, o1, o2, some (.w (.d (tabD t))), o4, o5, o6, some (.w (.d (.str (tabD t).shown))), o8, o9, o10, o11, o12, o13], p⟩ = .nx ⟨[o0, o1, o2, some (.w (.d (tabD t))), o4, o5, a6, some (.w (.d (.str (tabD t).shown))), o8, o9, o10, a11, a12, o13], p⟩ := by
  obtain ⟨xs, ex, hx⟩ := odd_tables T
  unfold b_odd
  walk_at "ks"
  rw [call_none (n := 1) (ws := [.d (tabD t)]) (as := [.d (tabD t)]) rfl rfl rfl ex]
  walk_at "ks"
  obtain ⟨S', el, a6, a11, a12, rfl, _⟩ := loop_inv (t := .one 6) (body := mSeq (mPar true false 12 11 (mLst (mCons (mWord wd__law_word (mCall 1 F_turned (mCons (mVar 6) (mNil)))) (mCons (mC (.str "")) (mNil)))) (mFn gRepr (mCons (mVar 6) (mNil))))
    (mSeq (mSetItem 12 (mWord wd__law_word (mCall 1 F_ticks (mCons (mVar 6) (mNil)))) (mC (.int 1)))
    (mSeq (mAppend 12 (mWord wd__law_word (mCall 3 F_part (mCons (mVar 6) (mCons (mC .none) (mCons (mC .none) (mNil)))))))
    (mIfS (mOrT (mTest (mBin (gIsB true) (mCall 1 F_is_table (mCons (mVar 6) (mNil))) (mC (.bool false)))) (mOrT (mTest (mBin gNe (mVar 12) (mBin gRepL (mLst (mCons (mC (.str "table")) (mNil))) (mC (.int 3))))) (mTest (mBin gNe (mFn gRepr (mCons (mVar 6) (mNil))) (mVar 11))))) (mRet (mC (.bool false))) (mSkip)))))
    (fun ds S => ∃ a6 a11 a12, S = ⟨[o0, o1, o2, some (.w (.d (tabD t))), o4, o5, a6, some (.w (.d (.str (tabD t).shown))), o8, o9, o10, a11, a12, o13], p⟩ ∧ ∀ d ∈ ds, OkT d)
    (by
      rintro d ds S ⟨a6, a11, a12, rfl, hd⟩
      obtain ⟨fd, rd, nt⟩ := hd d (List.mem_cons_self ..)
      refine ⟨_, rfl, .inl ?_⟩
      walk_at "ks"
      rw [word_ex (S1 := ⟨[o0, o1, o2, some (.w (.d (tabD t))), o4, o5, some (.w (.d d)), some (.w (.d (.str (tabD t).shown))), o8, o9, o10, a11, a12, o13], p⟩) (c := 2) (w := "table") (by
        walk_at "ks"
        exact call_none_ex (n := 1) (ws := [.d d]) (as := [.d d]) rfl rfl rfl (turned_no fd nt)) rfl]
      walk_at "ks"
      rw [gRepr_ok (x := d) rfl rd]
      walk_at "ks"
      rw [setitem_ok (i := 12) (me := mWord wd__law_word (mCall 1 F_ticks (mCons (mVar 6) (mNil)))) (mk := mC (.int 1)) (S := ⟨[o0, o1, o2, some (.w (.d (tabD t))), o4, o5, some (.w (.d d)), some (.w (.d (.str (tabD t).shown))), o8, o9, o10, some (.w (.d (.str d.shown))), some (.lst [.str "table", .str ""]), o13], p⟩) (S1 := ⟨[o0, o1, o2, some (.w (.d (tabD t))), o4, o5, some (.w (.d d)), some (.w (.d (.str (tabD t).shown))), o8, o9, o10, some (.w (.d (.str d.shown))), some (.lst [.str "table", .str ""]), o13], p⟩) (S2 := ⟨[o0, o1, o2, some (.w (.d (tabD t))), o4, o5, some (.w (.d d)), some (.w (.d (.str (tabD t).shown))), o8, o9, o10, some (.w (.d (.str d.shown))), some (.lst [.str "table", .str ""]), o13], p⟩) (ds := [.str "table", .str ""]) (w := .d (.str "table")) (x := .str "table") (k := 1) (word_ex (c := 2) (by
        walk_at "ks"
        exact call_none_ex (n := 1) (ws := [.d d]) (as := [.d d]) rfl rfl rfl (ticks_no fd nt)) rfl) rfl rfl rfl rfl (by decide)]
      walk_at "ks"
      rw [app_ok (i := 12) (me := mWord wd__law_word (mCall 3 F_part (mCons (mVar 6) (mCons (mC .none) (mCons (mC .none) (mNil)))))) (S := ⟨[o0, o1, o2, some (.w (.d (tabD t))), o4, o5, some (.w (.d d)), some (.w (.d (.str (tabD t).shown))), o8, o9, o10, some (.w (.d (.str d.shown))), some (.lst [.str "table", .str "table"]), o13], p⟩) (S1 := ⟨[o0, o1, o2, some (.w (.d (tabD t))), o4, o5, some (.w (.d d)), some (.w (.d (.str (tabD t).shown))), o8, o9, o10, some (.w (.d (.str d.shown))), some (.lst [.str "table", .str "table"]), o13], p⟩) (ds := [.str "table", .str "table"]) (ds1 := [.str "table", .str "table"]) (w := .d (.str "table")) (x := .str "table") rfl (word_ex (c := 2) (by
        walk_at "ks"
        exact call_none_ex (n := 3) (ws := [.d d, .d .none, .d .none]) (as := [.d d, .d .none, .d .none]) rfl rfl rfl (part_no fd nt)) rfl) rfl rfl (by decide)]
      walk_at "ks"
      rw [call_none (n := 1) (ws := [.d d]) (as := [.d d]) rfl rfl rfl (table_ok fd), nt]
      walk_at "ks"
      simp only [decide_true, Bool.not_true]
      walk_at "ks"
      rw [rep_tables]
      walk_at "ks"
      rw [gNe_of (x := .list [.str "table", .str "table", .str "table"]) (y := .list [.str "table", .str "table", .str "table"]) (dview_own rfl) rfl three_tables]
      simp only [Bool.not_true]
      walk_at "ks"
      rw [gRepr_ok (x := d) rfl rd]
      walk_at "ks"
      rw [gNe_str, decide_eq_true rfl]
      simp only [Bool.not_true]
      walk_at "ks"
      exact ⟨_, rfl, _, _, _, rfl, fun d' hd' => hd d' (List.mem_cons_of_mem _ hd')⟩)
    xs ⟨[o0, o1, o2, some (.w (.d (tabD t))), o4, o5, o6, some (.w (.d (.str (tabD t).shown))), o8, o9, o10, o11, o12, o13], p⟩ ⟨_, _, _, rfl, hx⟩
  rw [el]
  exact ⟨_, _, _, rfl⟩
end
end K01

set_option Elab.async false
set_option linter.all false
set_option maxRecDepth 100000
set_option maxHeartbeats 4000000
namespace K01
open PySem PySem.Spec PyProof.Rows L2 Vf
local macro_rules | `(tactic| walk_at "ks") => `(tactic| simp only [kSO, start0, kSM, kSE, kSV, kSP, kSL, kSG, kD, kC, kIt, kCall, kM1, kPar, kPar3, kSl, kFor, kSto, kTS, kOT, or_self, Option.map_some, Option.bind_some, sset_mk, Nat.reduceAdd, Nat.reduceLeDiff, ↓reduceIte, List.map_cons, List.map_nil, List.cons_append, List.nil_append, List.replicate, List.getElem?_cons_zero, List.getElem?_cons_succ, List.set_cons_zero, List.set_cons_succ, List.length_cons, List.length_nil, List.foldr_cons, List.foldr_nil])
def b_tab : MS := mSet 3 (mCall 2 F__law_table (mCons (mVar 1) (mCons (mBin gIxL (mLst (mCons (mC (.int 3)) (mCons (mC (.int 5)) (mCons (mC (.int 8)) (mNil))))) (mCall 2 F__law_draw (mCons (mVar 1) (mCons (mC (.int 3)) (mNil))))) (mNil))))
def b_held : MS := mPar false false 7 8 (mFn gRepr (mCons (mVar 3) (mNil))) (mLst (mNil))
def b_lap : MS := mSeq b_tab (mSeq b_held (mSeq b_row (mSeq b_again (mSeq b_turn (mSeq b_lines (mSeq b_bent b_odd))))))
def b_last : MS := (mRet (mAndV (mBin (gIsB false) (mCall 1 F_is_table (mCons (mBin gRepT (mTup (mCons (mC (.str "x")) (mNil))) (mC (.int 8))) (mNil))) (mC (.bool true))) (mAndV (mBin (gIsB false) (mCall 1 F_is_table (mCons (mTup (mCons (mBin gMulS (mC (.str "x")) (mC (.int 8))) (mNil))) (mNil))) (mC (.bool true))) (mBin gEq (mCall 1 F_ticks (mCons (mTup (mCons (mC (.str ".")) (mNil))) (mNil))) (mLst (mNil))))))
theorem law_eq : m_law = mSeq (mFor (.one 2) (mItR1 (mC (.int 4))) b_lap) b_last := rfl
def Lap (n : Nat) (S : Sx) : Prop := ∃ (o2 o3 o4 o5 o6 o7 o8 o9 o10 o11 o12 : Option Cell) (π : Pen), S = ⟨[none, some (.w .pen), o2, o3, o4, o5, o6, o7, o8, o9, o10, o11, o12, none], some π⟩ ∧ PenOk n π
theorem tab_run {n : Nat} {o0 o2 o3 o4 o5 o6 o7 o8 o9 o10 o11 o12 o13 : Option Cell} {π : Pen} (h : PenOk (n + 1001) π) :
    ∃ t m π', b_tab ⟨[o0, some (.w .pen), o2, o3, o4, o5, o6, o7, o8, o9, o10, o11, o12, o13], some π⟩ = .nx ⟨[o0, some (.w .pen), o2, some (.w (.d (tabD t))), o4, o5, o6, o7, o8, o9, o10, o11, o12, o13], some π'⟩ ∧ Tbl t m ∧ PenOk n π' := by
  obtain ⟨d, π1, e1, hd, p1⟩ := draw_nat (n := n + 1000) (u := 3) (h.mono (by omega)) (by decide) (by decide)
  obtain ⟨k, hk3, hk8, ek⟩ : ∃ k : Nat, 3 ≤ k ∧ k ≤ 8 ∧ atI [PyData.int 3, .int 5, .int 8] (d : Int) = some (.int (k : Int)) := by
    match d, hd with
    | 0, _ => exact ⟨3, by decide, by decide, rfl⟩
    | 1, _ => exact ⟨5, by decide, by decide, rfl⟩
    | 2, _ => exact ⟨8, by decide, by decide, rfl⟩
  obtain ⟨t, m, π2, e2, T, p2⟩ := table_draw hk3 hk8 p1
  refine ⟨t, m, π2, ?_, T, p2⟩
  unfold b_tab
  walk_at "ks"
  rw [drawR (u := 3) e1]
  walk_at "ks"
  rw [ek]
  walk_at "ks"
  rw [call_pen (n := 2) (ws := [.pen, .d (.int (k : Int))]) (as := [.pen, .d (.int (k : Int))]) rfl rfl rfl e2]
  walk_at "ks"
theorem held_run {t : List (List Bool)} {m : Nat} {o0 o1 o2 o4 o5 o6 o7 o8 o9 o10 o11 o12 o13 : Option Cell} {p : Option Pen} (T : Tbl t m) :
    b_held ⟨[o0, o1, o2, some (.w (.d (tabD t))), o4, o5, o6, o7, o8, o9, o10, o11, o12, o13], p⟩ = .nx ⟨[o0, o1, o2, some (.w (.d (tabD t))), o4, o5, o6, some (.w (.d (.str (tabD t).shown))), some (.w (.d (.list []))), o9, o10, o11, o12, o13], p⟩ := by
  unfold b_held
  walk_at "ks"
  rw [gRepr_ok (x := tabD t) rfl (tab_rok T)]
  walk_at "ks"
theorem lap_run {n : Nat} {o2 o3 o4 o5 o6 o7 o8 o9 o10 o11 o12 : Option Cell} {π : Pen} (h : PenOk (n + 2000) π) :
    ∃ S', b_lap ⟨[none, some (.w .pen), o2, o3, o4, o5, o6, o7, o8, o9, o10, o11, o12, none], some π⟩ = .nx S' ∧ Lap n S' := by
  obtain ⟨t, m, π1, e1, T, p1⟩ := tab_run (n := n + 999) (o0 := none) (o2 := o2) (o3 := o3) (o4 := o4) (o5 := o5) (o6 := o6) (o7 := o7) (o8 := o8) (o9 := o9) (o10 := o10) (o11 := o11) (o12 := o12) (o13 := none) h
  have e2 := held_run (o0 := none) (o1 := some (.w .pen)) (o2 := o2) (o4 := o4) (o5 := o5) (o6 := o6) (o7 := o7) (o8 := o8) (o9 := o9) (o10 := o10) (o11 := o11) (o12 := o12) (o13 := none) (p := some π1) T
  obtain ⟨a4, e3⟩ := row_run (o0 := none) (o1 := some (.w .pen)) (o2 := o2) (o4 := o4) (o5 := o5) (o6 := o6) (o7 := some (.w (.d (.str (tabD t).shown)))) (o9 := o9) (o10 := o10) (o11 := o11) (o12 := o12) (o13 := none) (p := some π1) T
  obtain ⟨a5, a9, e4⟩ := again_run (o0 := none) (o1 := some (.w .pen)) (o2 := o2) (o4 := a4) (o5 := o5) (o6 := o6) (o7 := some (.w (.d (.str (tabD t).shown)))) (o9 := o9) (o10 := o10) (o11 := o11) (o12 := o12) (o13 := none) (p := some π1) T
  have e5 := turn_run (o0 := none) (o1 := some (.w .pen)) (o2 := o2) (o4 := a4) (o5 := a5) (o6 := o6) (o8 := some (.w (.d (.list (ticksB t m))))) (o9 := a9) (o10 := o10) (o11 := o11) (o12 := o12) (o13 := none) (p := some π1) T
  obtain ⟨π2, e6, p2⟩ := lines_run (n := n + 60) (o0 := none) (o2 := o2) (o4 := a4) (o5 := a5) (o6 := o6) (o8 := some (.w (.d (.list (ticksB t m))))) (o9 := a9) (o10 := o10) (o11 := o11) (o12 := o12) (o13 := none) T (p1.mono (by omega))
  obtain ⟨b5, b10, b11, π3, e7, p3⟩ := bent_run (o0 := none) (o2 := o2) (o4 := a4) (o5 := a5) (o6 := o6) (o8 := some (.w (.d (.list (ticksB t m))))) (o9 := a9) (o10 := o10) (o11 := o11) (o12 := o12) (o13 := none) T p2
  obtain ⟨c6, c11, c12, e8⟩ := odd_run (o0 := none) (o1 := some (.w .pen)) (o2 := o2) (o4 := a4) (o5 := b5) (o6 := o6) (o8 := some (.w (.d (.list (ticksB t m))))) (o9 := a9) (o10 := b10) (o11 := b11) (o12 := o12) (o13 := none) (p := some π3) T
  have sq : ∀ {a b : MS} {S S1 : Sx} {r : RS}, a S = .nx S1 → b S1 = r → mSeq a b S = r := fun {a b S S1 r} h1 h2 => by
    unfold mSeq
    rw [h1]
    exact h2
  exact ⟨_, sq e1 (sq e2 (sq e3 (sq e4 (sq e5 (sq e6 (sq e7 e8)))))), _, _, _, _, _, _, _, _, _, _, _, _, rfl, p3⟩
theorem last_x8 : F_is_table [.d (.tuple [.str "x", .str "x", .str "x", .str "x", .str "x", .str "x", .str "x", .str "x"])] none = .ok (.d (.bool true)) none := by kernel_rfl
theorem last_8x : F_is_table [.d (.tuple [.str "xxxxxxxx"])] none = .ok (.d (.bool true)) none := by kernel_rfl
theorem last_no : F_ticks [.d (.tuple [.str "."])] none = .ok (.new []) none := by kernel_rfl
theorem eq_nil (S : Sx) : gEq S (.new []) (.new []) = some (.d (.bool true)) := by kernel_rfl
theorem last_run (S : Sx) : b_last S = .rt (.d (.bool true)) S := by
  unfold b_last
  walk_at "ks"
  rw [rep8]
  walk_at "ks"
  rw [call_none (n := 1) (ws := [.d (.tuple [.str "x", .str "x", .str "x", .str "x", .str "x", .str "x", .str "x", .str "x"])]) (as := [.d (.tuple [.str "x", .str "x", .str "x", .str "x", .str "x", .str "x", .str "x", .str "x"])]) rfl rfl rfl last_x8]
  walk_at "ks"
  simp only [decide_true]
  walk_at "ks"
  rw [mul8]
  walk_at "ks"
  rw [call_none (n := 1) (ws := [.d (.tuple [.str "xxxxxxxx"])]) (as := [.d (.tuple [.str "xxxxxxxx"])]) rfl rfl rfl last_8x]
  walk_at "ks"
  simp only [decide_true]
  walk_at "ks"
  rw [call_none (n := 1) (ws := [.d (.tuple [.str "."])]) (as := [.d (.tuple [.str "."])]) rfl rfl rfl last_no]
  walk_at "ks"
  rw [eq_nil]
  walk_at "ks"
theorem math (ns : List Int) : ∃ S', m_law (stPen 14 (cutI ns none (some 60))) = .rt (.d (.bool true)) S' := by
  rw [law_eq, show stPen 14 (cutI ns none (some 60)) = (⟨[none, some (.w .pen), none, none, none, none, none, none, none, none, none, none, none, none], some ⟨cutI ns none (some 60), 0, 0⟩⟩ : Sx) from rfl]
  walk_at "ks"
  rw [show rg1 (.d (.int 4)) = some (rngD 0 4) from rg1_ok (n := 4) (by decide)]
  walk_at "ks"
  obtain ⟨S', el, _⟩ := loop_inv (t := .one 2) (body := b_lap) (fun ds S => Lap (2000 * ds.length) S)
    (by
      rintro d ds S ⟨o2, o3, o4, o5, o6, o7, o8, o9, o10, o11, o12, π, rfl, hp⟩
      obtain ⟨S', e, h⟩ := lap_run (n := 2000 * ds.length) (o2 := some (.w (.d d))) (o3 := o3) (o4 := o4) (o5 := o5) (o6 := o6) (o7 := o7) (o8 := o8) (o9 := o9) (o10 := o10) (o11 := o11) (o12 := o12) (hp.mono (by rw [List.length_cons]; omega))
      exact ⟨_, rfl, .inl ⟨S', e, h⟩⟩)
    (rngD 0 4) ⟨[none, some (.w .pen), none, none, none, none, none, none, none, none, none, none, none, none], some ⟨cutI ns none (some 60), 0, 0⟩⟩ ⟨_, _, _, _, _, _, _, _, _, _, _, _, rfl, ⟨Int.le_refl 0, by rw [rngD_len]; show (0 : Int) + ((2000 * 4 : Nat) : Int) ≤ 2 ^ 60; decide⟩⟩
  rw [el]
  exact ⟨S', last_run S'⟩
end K01

set_option Elab.async false
set_option linter.all false
set_option maxRecDepth 100000
set_option maxHeartbeats 4000000
namespace K01
open PySem PySem.Spec PyProof.Rows L2 Vf
def topS (i : Nat) : Stmt := PySem.Challenge.pw_ticklay_k01_tables.main.body.getD i (.Pass ⟨0, 0, 0, 0⟩)
/-- names that the text leaves to the built-ins -/
structure Bi (mg : Str → Option Value) : Prop where
  all : mg "all" = none
  any : mg "any" = none
  bool : mg "bool" = none
  int : mg "int" = none
  isinstance : mg "isinstance" = none
  len : mg "len" = none
  list : mg "list" = none
  min : mg "min" = none
  range : mg "range" = none
  repr : mg "repr" = none
  set : mg "set" = none
  str : mg "str" = none
  tuple : mg "tuple" = none
  zip : mg "zip" = none
/-- the text's own names of plain values -/
structure Cst (mg : Str → Option Value) : Prop where
  BLANK : ∃ t, mg "BLANK" = some (.str "." t)
  MOST : ∃ t, mg "MOST" = some (.int 8 t)
  TICK : ∃ t, mg "TICK" = some (.str "x" t)
/-- a class of errors -/
structure ClsX (K : PySem.W.Frag) (mg : Str → Option Value) (x : Str) (a : Addr) : Prop where
  q : PySem.W.excIn K a [.type "ValueError", .type "Exception", .type "BaseException", .type "object"] "ValueError.__new__" = true
  g : mg x = some (.ref a)
  k : PySem.W.keepIn K (.ref a) = true
  b : PySem.W.subIn K (.ref a) (.type "BaseException") = some true
  t : PySem.W.typeIn K (.ref a) = some (.type "type")
section
variable {P : Program} {w : World} {K : PySem.W.Frag} {mg : Str → Option Value} {base : Heap} {cls : Nat → Addr} {T : List (Addr × Str)}
/-! is_integer -/
abbrev s_is_integer : Stmt := topS 1
theorem sc_is_integer : FnScope ["thing"] ["thing"] (defScope s_is_integer) := ⟨rfl, rfl, rfl, by decide +kernel, rfl, by decide +kernel, by decide +kernel⟩
theorem ok_is_integer (B : Bi mg) {f : Addr} {fd : FuncData} (D : DefOk K mg "is_integer" s_is_integer ["thing"] f fd) : FnOk P w K mg base (L2.CX P w) 1 f fd ["thing"] (spF K cls T 1 F_is_integer) :=
  fnK_go (k := 0) (n := 0) (m := m_is_integer) D sc_is_integer rfl fun pa H0 mu0 ow0 cdv hcdv A outer s H E hr hx tk po =>
    jb_one (js_ret (je_and (je_isi (T := .int) hx (je_var (pv 0)) (by decide) (pe_bltn (v := .ty "int") (by rfl) B.int (by decide +kernel) rfl) (by rfl) B.isinstance) (je_one (je_not (je_isi (T := .bl) hx (je_var (pv 0)) (by decide) (pe_bltn (v := .ty "bool") (by rfl) B.bool (by decide +kernel) rfl) (by rfl) B.isinstance)))))
/-! is_integer_to -/
abbrev s_is_integer_to : Stmt := topS 2
theorem sc_is_integer_to : FnScope ["thing", "most"] ["thing", "most"] (defScope s_is_integer_to) := ⟨rfl, rfl, rfl, by decide +kernel, rfl, by decide +kernel, by decide +kernel⟩
theorem ok_is_integer_to {f_is_integer : Addr} {fd_is_integer : FuncData} (D_is_integer : DefOk K mg "is_integer" s_is_integer ["thing"] f_is_integer fd_is_integer) (ok_is_integer : FnOk P w K mg base (L2.CX P w) 1 f_is_integer fd_is_integer ["thing"] (spF K cls T 1 F_is_integer)) {f : Addr} {fd : FuncData} (D : DefOk K mg "is_integer_to" s_is_integer_to ["thing", "most"] f fd) : FnOk P w K mg base (L2.CX P w) 2 f fd ["thing", "most"] (spF K cls T 2 F_is_integer_to) :=
  fnK_go (k := 1) (n := 0) (m := m_is_integer_to) D sc_is_integer_to rfl fun pa H0 mu0 ow0 cdv hcdv A outer s H E hr hx tk po =>
    jb_one (js_ret (je_and (je_callK hx tk ok_is_integer (hr.mono (by decide : 1 ≤ _)) D_is_integer.g D_is_integer.k D_is_integer.b (ja_cons (je_var (pv 0)) (ja_nil))) (je_one (je_chain op_le op_le o_le o_le (je_c pe_int) (je_var (pv 0)) (je_var (pv 1))))))
/-! is_index -/
abbrev s_is_index : Stmt := topS 3
theorem sc_is_index : FnScope ["thing", "count"] ["thing", "count"] (defScope s_is_index) := ⟨rfl, rfl, rfl, by decide +kernel, rfl, by decide +kernel, by decide +kernel⟩
theorem ok_is_index {f_is_integer_to : Addr} {fd_is_integer_to : FuncData} (D_is_integer_to : DefOk K mg "is_integer_to" s_is_integer_to ["thing", "most"] f_is_integer_to fd_is_integer_to) (ok_is_integer_to : FnOk P w K mg base (L2.CX P w) 2 f_is_integer_to fd_is_integer_to ["thing", "most"] (spF K cls T 2 F_is_integer_to)) {f : Addr} {fd : FuncData} (D : DefOk K mg "is_index" s_is_index ["thing", "count"] f fd) : FnOk P w K mg base (L2.CX P w) 3 f fd ["thing", "count"] (spF K cls T 2 F_is_index) :=
  fnK_go (k := 2) (n := 0) (m := m_is_index) D sc_is_index rfl fun pa H0 mu0 ow0 cdv hcdv A outer s H E hr hx tk po =>
    jb_one (js_ret (je_callK hx tk ok_is_integer_to (hr.mono (by decide : 2 ≤ _)) D_is_integer_to.g D_is_integer_to.k D_is_integer_to.b (ja_cons (je_var (pv 0)) (ja_cons (je_op op_sub o_sub (je_var (pv 1)) (je_c pe_int)) (ja_nil)))))
/-! are_indexes -/
abbrev s_are_indexes : Stmt := topS 4
theorem sc_are_indexes : FnScope ["thing", "count", "item"] ["thing", "count"] (defScope s_are_indexes) := ⟨rfl, rfl, rfl, by decide +kernel, rfl, by decide +kernel, by decide +kernel⟩
theorem ok_are_indexes (B : Bi mg) {f_is_index : Addr} {fd_is_index : FuncData} (D_is_index : DefOk K mg "is_index" s_is_index ["thing", "count"] f_is_index fd_is_index) (ok_is_index : FnOk P w K mg base (L2.CX P w) 3 f_is_index fd_is_index ["thing", "count"] (spF K cls T 2 F_is_index)) {f : Addr} {fd : FuncData} (D : DefOk K mg "are_indexes" s_are_indexes ["thing", "count"] f fd) : FnOk P w K mg base (L2.CX P w) 4 f fd ["thing", "count"] (spF K cls T 2 F_are_indexes) :=
  fnK_go (k := 3) (n := 1) (m := m_are_indexes) D sc_are_indexes rfl fun pa H0 mu0 ow0 cdv hcdv A outer s H E hr hx tk po =>
    jb_one (js_ret (je_and (je_isi (T := .tup) hx (je_var (pv 0)) (by decide) (pe_bltn (v := .ty "tuple") (by rfl) B.tuple (by decide +kernel) rfl) (by rfl) B.isinstance) (je_one (je_bi (cr_all hx.calm) o_all (by rfl) B.all (by decide +kernel) (ja_cons (je_lc (own := [("item", 2)]) (t := (.one 2)) hx (ji_tup hx (je_var (pv 0))) (blkOk_by (own := [("item", 2)]) (by dsimp only [cxOf, Cx.blk, compEnvC]; (try simp only [relabel_eq]); dsimp only [envOfC]; decide +kernel)) (by decide) (fun _ _ _ _ _ => pg_name (i := 2) (hx.blk _ _ _ _ _).nd rfl (by first | exact Or.inl rfl | exact Or.inr rfl)) (fun _ _ _ _ _ => jc_nil) (fun _ _ _ _ _ => je_callK (hx.blk _ _ _ _ _) L2.takes0 ok_is_index (hr.mono (by decide : 3 ≤ _)) D_is_index.g D_is_index.k D_is_index.b (ja_cons (je_var (pv 2)) (ja_cons (je_var (pv 1)) (ja_nil)))) s) (ja_nil))))))
/-! are_lines -/
abbrev s_are_lines : Stmt := topS 5
theorem sc_are_lines : FnScope ["thing", "count"] ["thing", "count"] (defScope s_are_lines) := ⟨rfl, rfl, rfl, by decide +kernel, rfl, by decide +kernel, by decide +kernel⟩
theorem ok_are_lines (B : Bi mg) {f_are_indexes : Addr} {fd_are_indexes : FuncData} (D_are_indexes : DefOk K mg "are_indexes" s_are_indexes ["thing", "count"] f_are_indexes fd_are_indexes) (ok_are_indexes : FnOk P w K mg base (L2.CX P w) 4 f_are_indexes fd_are_indexes ["thing", "count"] (spF K cls T 2 F_are_indexes)) {f : Addr} {fd : FuncData} (D : DefOk K mg "are_lines" s_are_lines ["thing", "count"] f fd) : FnOk P w K mg base (L2.CX P w) 5 f fd ["thing", "count"] (spF K cls T 2 F_are_lines) :=
  fnK_go (k := 4) (n := 0) (m := m_are_lines) D sc_are_lines rfl fun pa H0 mu0 ow0 cdv hcdv A outer s H E hr hx tk po =>
    jb_cons (js_if ((jw_or (jt_not (jt_val (je_callK hx tk ok_are_indexes (hr.mono (by decide : 4 ≤ _)) D_are_indexes.g D_are_indexes.k D_are_indexes.b (ja_cons (je_var (pv 0)) (ja_cons (je_var (pv 1)) (ja_nil)))))) (jw_or1 (jt_cmp (OpR.or op_eq (op_eqD hr.units)) o_eq (je_bi call_len o_len (by rfl) B.len (by decide +kernel) (ja_cons (je_var (pv 0)) (ja_nil))) (je_c pe_int)))).jt) (jb_one (js_ret (je_c pe_bl))) (jb_nil))
    (jb_one (js_ret (je_cmp (OpR.or op_eq (op_eqD hr.units)) o_eq (je_lenSet hx (je_var (pv 0)) rfl B.len rfl B.set) (je_bi call_len o_len (by rfl) B.len (by decide +kernel) (ja_cons (je_var (pv 0)) (ja_nil))))))
/-! is_row -/
abbrev s_is_row : Stmt := topS 14
theorem sc_is_row : FnScope ["thing", "sign"] ["thing"] (defScope s_is_row) := ⟨rfl, rfl, rfl, by decide +kernel, rfl, by decide +kernel, by decide +kernel⟩
theorem ok_is_row (B : Bi mg) (Cs : Cst mg) {f : Addr} {fd : FuncData} (D : DefOk K mg "is_row" s_is_row ["thing"] f fd) : FnOk P w K mg base (L2.CX P w) 1 f fd ["thing"] (spF K cls T 1 F_is_row) :=
  fnK_go (k := 0) (n := 1) (m := m_is_row) D sc_is_row rfl fun pa H0 mu0 ow0 cdv hcdv A outer s H E hr hx tk po =>
    jb_cons (js_if ((jw_or (jt_not (jt_val (je_isi (T := .str) hx (je_var (pv 0)) (by decide) (pe_bltn (v := .ty "str") (by rfl) B.str (by decide +kernel) rfl) (by rfl) B.isinstance))) (jw_or1 (jt_not (jt_chain op_le op_le o_le o_le (je_c pe_int) (je_bi call_len o_len (by rfl) B.len (by decide +kernel) (ja_cons (je_var (pv 0)) (ja_nil))) (je_gint Cs.MOST))))).jt) (jb_one (js_ret (je_c pe_bl))) (jb_nil))
    (jb_one (js_ret (je_bi (cr_all hx.calm) o_all (by rfl) B.all (by decide +kernel) (ja_cons (je_lc (own := [("sign", 1)]) (t := (.one 1)) hx (ji_str (je_var (pv 0))) (blkOk_by (own := [("sign", 1)]) (by dsimp only [cxOf, Cx.blk, compEnvC]; (try simp only [relabel_eq]); dsimp only [envOfC]; decide +kernel)) (by decide) (fun _ _ _ _ _ => pg_name (i := 1) (hx.blk _ _ _ _ _).nd rfl (by first | exact Or.inl rfl | exact Or.inr rfl)) (fun _ _ _ _ _ => jc_nil) (fun _ _ _ _ _ => je_cmp op_in_seq (o_in false) (je_var (pv 1)) (je_tup (ja_cons (je_gstr Cs.TICK) (ja_cons (je_gstr Cs.BLANK) (ja_nil))))) s) (ja_nil)))))
/-! is_table -/
abbrev s_is_table : Stmt := topS 15
theorem sc_is_table : FnScope ["thing", "row"] ["thing"] (defScope s_is_table) := ⟨rfl, rfl, rfl, by decide +kernel, rfl, by decide +kernel, by decide +kernel⟩
theorem ok_is_table (B : Bi mg) (Cs : Cst mg) {f_is_row : Addr} {fd_is_row : FuncData} (D_is_row : DefOk K mg "is_row" s_is_row ["thing"] f_is_row fd_is_row) (ok_is_row : FnOk P w K mg base (L2.CX P w) 1 f_is_row fd_is_row ["thing"] (spF K cls T 1 F_is_row)) {f : Addr} {fd : FuncData} (D : DefOk K mg "is_table" s_is_table ["thing"] f fd) : FnOk P w K mg base (L2.CX P w) 2 f fd ["thing"] (spF K cls T 1 F_is_table) :=
  fnK_go (k := 1) (n := 1) (m := m_is_table) D sc_is_table rfl fun pa H0 mu0 ow0 cdv hcdv A outer s H E hr hx tk po =>
    jb_cons (js_if ((jw_or (jt_not (jt_val (je_isi (T := .tup) hx (je_var (pv 0)) (by decide) (pe_bltn (v := .ty "tuple") (by rfl) B.tuple (by decide +kernel) rfl) (by rfl) B.isinstance))) (jw_or1 (jt_not (jt_chain op_le op_le o_le o_le (je_c pe_int) (je_bi call_len o_len (by rfl) B.len (by decide +kernel) (ja_cons (je_var (pv 0)) (ja_nil))) (je_gint Cs.MOST))))).jt) (jb_one (js_ret (je_c pe_bl))) (jb_nil))
    (jb_cons (js_if (jt_not (jt_val (je_bi (cr_all hx.calm) o_all (by rfl) B.all (by decide +kernel) (ja_cons (je_lc (own := [("row", 1)]) (t := (.one 1)) hx (ji_tup hx (je_var (pv 0))) (blkOk_by (own := [("row", 1)]) (by dsimp only [cxOf, Cx.blk, compEnvC]; (try simp only [relabel_eq]); dsimp only [envOfC]; decide +kernel)) (by decide) (fun _ _ _ _ _ => pg_name (i := 1) (hx.blk _ _ _ _ _).nd rfl (by first | exact Or.inl rfl | exact Or.inr rfl)) (fun _ _ _ _ _ => jc_nil) (fun _ _ _ _ _ => je_callK (hx.blk _ _ _ _ _) L2.takes0 ok_is_row (hr.mono (by decide : 1 ≤ _)) D_is_row.g D_is_row.k D_is_row.b (ja_cons (je_var (pv 1)) (ja_nil))) s) (ja_nil))))) (jb_one (js_ret (je_c pe_bl))) (jb_nil))
    (jb_one (js_ret (je_bi (cr_all hx.calm) o_all (by rfl) B.all (by decide +kernel) (ja_cons (je_lc (own := [("row", 1)]) (t := (.one 1)) hx (ji_tup hx (je_var (pv 0))) (blkOk_by (own := [("row", 1)]) (by dsimp only [cxOf, Cx.blk, compEnvC]; (try simp only [relabel_eq]); dsimp only [envOfC]; decide +kernel)) (by decide) (fun _ _ _ _ _ => pg_name (i := 1) (hx.blk _ _ _ _ _).nd rfl (by first | exact Or.inl rfl | exact Or.inr rfl)) (fun _ _ _ _ _ => jc_nil) (fun _ _ _ _ _ => je_cmp (OpR.or op_eq (op_eqD hr.units)) o_eq (je_bi call_len o_len (by rfl) B.len (by decide +kernel) (ja_cons (je_var (pv 1)) (ja_nil))) (je_bi call_len o_len (by rfl) B.len (by decide +kernel) (ja_cons (je_ix ix_tup o_ixT (je_var (pv 0)) (je_c pe_int) (fun _ _ => rfl)) (ja_nil)))) s) (ja_nil))))))
/-! check_table -/
abbrev s_check_table : Stmt := topS 16
theorem sc_check_table : FnScope ["thing"] ["thing"] (defScope s_check_table) := ⟨rfl, rfl, rfl, by decide +kernel, rfl, by decide +kernel, by decide +kernel⟩
theorem ok_check_table (X_InvalidTable : ClsX K mg "InvalidTable" (cls 2)) {f_is_table : Addr} {fd_is_table : FuncData} (D_is_table : DefOk K mg "is_table" s_is_table ["thing"] f_is_table fd_is_table) (ok_is_table : FnOk P w K mg base (L2.CX P w) 2 f_is_table fd_is_table ["thing"] (spF K cls T 1 F_is_table)) {f : Addr} {fd : FuncData} (D : DefOk K mg "check_table" s_check_table ["thing"] f fd) : FnOk P w K mg base (L2.CX P w) 3 f fd ["thing"] (spF K cls T 1 F_check_table) :=
  fnK_go (k := 2) (n := 0) (m := m_check_table) D sc_check_table rfl fun pa H0 mu0 ow0 cdv hcdv A outer s H E hr hx tk po =>
    jb_one (js_if (jt_not (jt_val (je_callK hx tk ok_is_table (hr.mono (by decide : 2 ≤ _)) D_is_table.g D_is_table.k D_is_table.b (ja_cons (je_var (pv 0)) (ja_nil))))) (jb_one (js_raise (c := 2) hx tk PySem.F.excBase_ValueError X_InvalidTable.q X_InvalidTable.g X_InvalidTable.k (raises_own X_InvalidTable.b X_InvalidTable.t))) (jb_nil))
/-! signs_at -/
abbrev s_signs_at : Stmt := topS 17
theorem sc_signs_at : FnScope ["row", "places", "place"] ["row", "places"] (defScope s_signs_at) := ⟨rfl, rfl, rfl, by decide +kernel, rfl, by decide +kernel, by decide +kernel⟩
theorem ok_signs_at {f : Addr} {fd : FuncData} (D : DefOk K mg "signs_at" s_signs_at ["row", "places"] f fd) : FnOk P w K mg base (L2.CX P w) 1 f fd ["row", "places"] (spF K cls T 2 F_signs_at) :=
  fnK_go (k := 0) (n := 1) (m := m_signs_at) D sc_signs_at rfl fun pa H0 mu0 ow0 cdv hcdv A outer s H E hr hx tk po =>
    jb_one (js_ret (je_join hx (je_c pe_str) (je_lc (own := [("place", 2)]) (t := (.one 2)) hx (ji_tup hx (je_var (pv 1))) (blkOk_by (own := [("place", 2)]) (by dsimp only [cxOf, Cx.blk, compEnvC]; (try simp only [relabel_eq]); dsimp only [envOfC]; decide +kernel)) (by decide) (fun _ _ _ _ _ => pg_name (i := 2) (hx.blk _ _ _ _ _).nd rfl (by first | exact Or.inl rfl | exact Or.inr rfl)) (fun _ _ _ _ _ => jc_nil) (fun _ _ _ _ _ => je_ix ix_str o_ixS (je_var (pv 0)) (je_var (pv 2)) (fun _ _ => rfl)) s)))
/-! places_of -/
abbrev s_places_of : Stmt := topS 18
theorem sc_places_of : FnScope ["table", "sign", "columns", "row", "column"] ["table", "sign"] (defScope s_places_of) := ⟨rfl, rfl, rfl, by decide +kernel, rfl, by decide +kernel, by decide +kernel⟩
theorem ok_places_of (B : Bi mg) {f : Addr} {fd : FuncData} (D : DefOk K mg "places_of" s_places_of ["table", "sign"] f fd) : FnOk P w K mg base (L2.CX P w) 1 f fd ["table", "sign"] (spF K cls T 2 F_places_of) :=
  fnK_go (k := 0) (n := 3) (m := m_places_of) D sc_places_of rfl fun pa H0 mu0 ow0 cdv hcdv A outer s H E hr hx tk po =>
    jb_cons (js_set (i := 2) hx (je_ty cr_range1 o_rng (by rfl) B.range (by decide +kernel) (ja_cons (je_bi call_len o_len (by rfl) B.len (by decide +kernel) (ja_cons (je_ix ix_tup o_ixT (je_var (pv 0)) (je_c pe_int) (fun _ _ => rfl)) (ja_nil))) (ja_nil))))
    (jb_one (js_ret (je_lc2 (own := [("row", 3), ("column", 4)]) (vs1 := [4]) (t := (.one 3)) (t1 := (.one 4)) hx (ji_range1 (je_bi call_len o_len (by rfl) B.len (by decide +kernel) (ja_cons (je_var (pv 0)) (ja_nil))) B.range) (blkOk_by (own := [("row", 3), ("column", 4)]) (by dsimp only [cxOf, Cx.blk, compEnvC]; (try simp only [relabel_eq]); dsimp only [envOfC]; decide +kernel)) (by decide) (by decide) (by decide) (fun _ _ _ _ _ => pg_name (i := 3) (hx.blk _ _ _ _ _).nd rfl (by first | exact Or.inl rfl | exact Or.inr rfl)) (fun _ _ _ _ _ => jc_nil) (fun _ _ _ _ _ => ji_rngV (je_var (pv 2))) (fun _ _ _ _ _ => pg_name (i := 4) (hx.blk _ _ _ _ _).nd rfl (by first | exact Or.inl rfl | exact Or.inr rfl)) (fun _ _ _ _ _ => jc_one (jt_cmp (OpR.or op_eq (op_eqD hr.units)) o_eq (je_ix ix_str o_ixS (je_ix ix_tup o_ixT (je_var (pv 0)) (je_var (pv 3)) (fun _ _ => rfl)) (je_var (pv 4)) (fun _ _ => rfl)) (je_var (pv 1)))) (fun _ _ _ _ _ => je_tup (ja_cons (je_var (pv 3)) (ja_cons (je_var (pv 4)) (ja_nil)))) s)))
/-! turned -/
abbrev s_turned : Stmt := topS 19
theorem sc_turned : FnScope ["table", "signs"] ["table"] (defScope s_turned) := ⟨rfl, rfl, rfl, by decide +kernel, rfl, by decide +kernel, by decide +kernel⟩
theorem ok_turned (B : Bi mg) {f_check_table : Addr} {fd_check_table : FuncData} (D_check_table : DefOk K mg "check_table" s_check_table ["thing"] f_check_table fd_check_table) (ok_check_table : FnOk P w K mg base (L2.CX P w) 3 f_check_table fd_check_table ["thing"] (spF K cls T 1 F_check_table)) {f : Addr} {fd : FuncData} (D : DefOk K mg "turned" s_turned ["table"] f fd) : FnOk P w K mg base (L2.CX P w) 4 f fd ["table"] (spF K cls T 1 F_turned) :=
  fnK_go (k := 3) (n := 1) (m := m_turned) D sc_turned rfl fun pa H0 mu0 ow0 cdv hcdv A outer s H E hr hx tk po =>
    jb_cons (js_expr (je_callK hx tk ok_check_table (hr.mono (by decide : 3 ≤ _)) D_check_table.g D_check_table.k D_check_table.b (ja_cons (je_var (pv 0)) (ja_nil))))
    (jb_one (js_ret (je_ty call_tuple_of o_tuple (by rfl) B.tuple (by decide +kernel) (ja_cons (je_lc (own := [("signs", 1)]) (t := (.one 1)) hx (ji_zipS hx (je_var (pv 0)) rfl B.zip) (blkOk_by (own := [("signs", 1)]) (by dsimp only [cxOf, Cx.blk, compEnvC]; (try simp only [relabel_eq]); dsimp only [envOfC]; decide +kernel)) (by decide) (fun _ _ _ _ _ => pg_name (i := 1) (hx.blk _ _ _ _ _).nd rfl (by first | exact Or.inl rfl | exact Or.inr rfl)) (fun _ _ _ _ _ => jc_nil) (fun _ _ _ _ _ => je_join (hx.blk _ _ _ _ _) (je_c pe_str) (je_var (pv 1))) s) (ja_nil)))))
/-! part -/
abbrev s_part : Stmt := topS 20
theorem sc_part : FnScope ["table", "rows", "columns", "row"] ["table", "rows", "columns"] (defScope s_part) := ⟨rfl, rfl, rfl, by decide +kernel, rfl, by decide +kernel, by decide +kernel⟩
theorem ok_part (B : Bi mg) (X_InvalidLines : ClsX K mg "InvalidLines" (cls 1)) {f_check_table : Addr} {fd_check_table : FuncData} (D_check_table : DefOk K mg "check_table" s_check_table ["thing"] f_check_table fd_check_table) (ok_check_table : FnOk P w K mg base (L2.CX P w) 3 f_check_table fd_check_table ["thing"] (spF K cls T 1 F_check_table)) {f_are_lines : Addr} {fd_are_lines : FuncData} (D_are_lines : DefOk K mg "are_lines" s_are_lines ["thing", "count"] f_are_lines fd_are_lines) (ok_are_lines : FnOk P w K mg base (L2.CX P w) 5 f_are_lines fd_are_lines ["thing", "count"] (spF K cls T 2 F_are_lines)) {f_signs_at : Addr} {fd_signs_at : FuncData} (D_signs_at : DefOk K mg "signs_at" s_signs_at ["row", "places"] f_signs_at fd_signs_at) (ok_signs_at : FnOk P w K mg base (L2.CX P w) 1 f_signs_at fd_signs_at ["row", "places"] (spF K cls T 2 F_signs_at)) {f : Addr} {fd : FuncData} (D : DefOk K mg "part" s_part ["table", "rows", "columns"] f fd) : FnOk P w K mg base (L2.CX P w) 6 f fd ["table", "rows", "columns"] (spF K cls T 3 F_part) :=
  fnK_go (k := 5) (n := 1) (m := m_part) D sc_part rfl fun pa H0 mu0 ow0 cdv hcdv A outer s H E hr hx tk po =>
    jb_cons (js_expr (je_callK hx tk ok_check_table (hr.mono (by decide : 3 ≤ _)) D_check_table.g D_check_table.k D_check_table.b (ja_cons (je_var (pv 0)) (ja_nil))))
    (jb_cons (js_if ((jw_or (jt_not (jt_val (je_callK hx tk ok_are_lines (hr.mono (by decide : 5 ≤ _)) D_are_lines.g D_are_lines.k D_are_lines.b (ja_cons (je_var (pv 1)) (ja_cons (je_bi call_len o_len (by rfl) B.len (by decide +kernel) (ja_cons (je_var (pv 0)) (ja_nil))) (ja_nil)))))) (jw_or1 (jt_not (jt_val (je_callK hx tk ok_are_lines (hr.mono (by decide : 5 ≤ _)) D_are_lines.g D_are_lines.k D_are_lines.b (ja_cons (je_var (pv 2)) (ja_cons (je_bi call_len o_len (by rfl) B.len (by decide +kernel) (ja_cons (je_ix ix_tup o_ixT (je_var (pv 0)) (je_c pe_int) (fun _ _ => rfl)) (ja_nil))) (ja_nil)))))))).jt) (jb_one (js_raise (c := 1) hx tk PySem.F.excBase_ValueError X_InvalidLines.q X_InvalidLines.g X_InvalidLines.k (raises_own X_InvalidLines.b X_InvalidLines.t))) (jb_nil))
    (jb_one (js_ret (je_ty call_tuple_of o_tuple (by rfl) B.tuple (by decide +kernel) (ja_cons (je_lc (own := [("row", 3)]) (t := (.one 3)) hx (ji_tup hx (je_var (pv 1))) (blkOk_by (own := [("row", 3)]) (by dsimp only [cxOf, Cx.blk, compEnvC]; (try simp only [relabel_eq]); dsimp only [envOfC]; decide +kernel)) (by decide) (fun _ _ _ _ _ => pg_name (i := 3) (hx.blk _ _ _ _ _).nd rfl (by first | exact Or.inl rfl | exact Or.inr rfl)) (fun _ _ _ _ _ => jc_nil) (fun _ _ _ _ _ => je_callK (hx.blk _ _ _ _ _) L2.takes0 ok_signs_at (hr.mono (by decide : 1 ≤ _)) D_signs_at.g D_signs_at.k D_signs_at.b (ja_cons (je_ix ix_tup o_ixT (je_var (pv 0)) (je_var (pv 3)) (fun _ _ => rfl)) (ja_cons (je_var (pv 2)) (ja_nil)))) s) (ja_nil))))))
/-! ticks -/
abbrev s_ticks : Stmt := topS 21
theorem sc_ticks : FnScope ["table"] ["table"] (defScope s_ticks) := ⟨rfl, rfl, rfl, by decide +kernel, rfl, by decide +kernel, by decide +kernel⟩
theorem ok_ticks (Cs : Cst mg) {f_check_table : Addr} {fd_check_table : FuncData} (D_check_table : DefOk K mg "check_table" s_check_table ["thing"] f_check_table fd_check_table) (ok_check_table : FnOk P w K mg base (L2.CX P w) 3 f_check_table fd_check_table ["thing"] (spF K cls T 1 F_check_table)) {f_places_of : Addr} {fd_places_of : FuncData} (D_places_of : DefOk K mg "places_of" s_places_of ["table", "sign"] f_places_of fd_places_of) (ok_places_of : FnOk P w K mg base (L2.CX P w) 1 f_places_of fd_places_of ["table", "sign"] (spF K cls T 2 F_places_of)) {f : Addr} {fd : FuncData} (D : DefOk K mg "ticks" s_ticks ["table"] f fd) : FnOk P w K mg base (L2.CX P w) 4 f fd ["table"] (spF K cls T 1 F_ticks) :=
  fnK_go (k := 3) (n := 0) (m := m_ticks) D sc_ticks rfl fun pa H0 mu0 ow0 cdv hcdv A outer s H E hr hx tk po =>
    jb_cons (js_expr (je_callK hx tk ok_check_table (hr.mono (by decide : 3 ≤ _)) D_check_table.g D_check_table.k D_check_table.b (ja_cons (je_var (pv 0)) (ja_nil))))
    (jb_one (js_ret (je_callK hx tk ok_places_of (hr.mono (by decide : 1 ≤ _)) D_places_of.g D_places_of.k D_places_of.b (ja_cons (je_var (pv 0)) (ja_cons (je_gstr Cs.TICK) (ja_nil))))))
/-! _law_pen -/
abbrev s__law_pen : Stmt := topS 23
theorem sc__law_pen : FnScope ["script"] ["script"] (defScope s__law_pen) := ⟨rfl, rfl, rfl, by decide +kernel, rfl, by decide +kernel, by decide +kernel⟩
theorem ok__law_pen (B : Bi mg) {f : Addr} {fd : FuncData} (D : DefOk K mg "_law_pen" s__law_pen ["script"] f fd) : FnOk P w K mg base (L2.CX P w) 1 f fd ["script"] (spPen K 60) :=
  pen_ok D sc__law_pen rfl (.inl rfl) rfl B.list (by decide) (by decide)
/-! _law_next -/
abbrev s__law_next : Stmt := topS 24
theorem sc__law_next : FnScope ["pen", "index", "cell_here", "some", "more", "high"] ["pen"] (defScope s__law_next) := ⟨rfl, rfl, rfl, by decide +kernel, rfl, by decide +kernel, by decide +kernel⟩
theorem ok__law_next (B : Bi mg) {f : Addr} {fd : FuncData} (D : DefOk K mg "_law_next" s__law_next ["pen"] f fd) : FnOk P w K mg base (L2.CX P w) 1 f fd ["pen"] (spF K cls T 1 F__law_next) :=
  fnK_go (k := 0) (n := 5) (m := m__law_next) D sc__law_next rfl fun pa H0 mu0 ow0 cdv hcdv A outer s H E hr hx tk po =>
    jb_cons (js_set (i := 1) hx (je_ix ix_list o_ixP (je_var (pv 0)) (je_c pe_int) (fun _ _ => rfl)))
    (jb_cons (js_setpen (je_op op_add o_add (je_var (pv 1)) (je_c pe_int)) (je_var (pv 0)) (je_c pe_int) (pg_sub (je_var (pv 0)).pe (je_c pe_int).pe set_list))
    (jb_cons (js_set (i := 2) hx (je_op op_add o_add (je_op op_mulW o_mul (je_var (pv 1)) (je_c pe_int)) (je_c pe_int)))
    (jb_cons (js_if (jt_cmp (OpR.or op_ne (op_neD hr.units)) o_ne (je_ix ix_list o_ixP (je_var (pv 0)) (je_c pe_int) (fun _ _ => rfl)) (je_lst (ja_nil))) (jb_one (js_set (i := 2) hx (je_ix ix_list o_ixL (je_ix ix_list o_ixP (je_var (pv 0)) (je_c pe_int) (fun _ _ => rfl)) (je_op op_mod o_mod (je_ty call_int1 o_int (by rfl) B.int (by decide +kernel) (ja_cons (je_var (pv 1)) (ja_nil))) (je_bi call_len o_len (by rfl) B.len (by decide +kernel) (ja_cons (je_ix ix_list o_ixP (je_var (pv 0)) (je_c pe_int) (fun _ _ => rfl)) (ja_nil)))) (fun _ _ => rfl)))) (jb_nil))
    (jb_cons (js_if ((jw_and (jt_cmp op_lt o_lt (je_var (pv 1)) (je_bi call_len o_len (by rfl) B.len (by decide +kernel) (ja_cons (je_ix ix_list o_ixP (je_var (pv 0)) (je_c pe_int) (fun _ _ => rfl)) (ja_nil)))) (jw_and1 (jt_cmp op_ge o_ge (je_var (pv 2)) (je_op op_pow o_pow (je_c pe_int) (je_c pe_int))))).jt) (jb_one (js_ret (je_var (pv 2)))) (jb_nil))
    (jb_cons (js_set (i := 3) hx (je_op op_mod o_mod (je_ty call_int1 o_int (by rfl) B.int (by decide +kernel) (ja_cons (je_op op_add o_add (je_op op_add o_add (je_op op_mod o_mod (je_ty call_int1 o_int (by rfl) B.int (by decide +kernel) (ja_cons (je_var (pv 2)) (ja_nil))) (je_c pe_int)) (je_op op_mulW o_mul (je_var (pv 1)) (je_c pe_int))) (je_c pe_int)) (ja_nil))) (je_c pe_int)))
    (jb_cons (js_set (i := 4) hx (je_op op_mod o_mod (je_ty call_int1 o_int (by rfl) B.int (by decide +kernel) (ja_cons (je_op op_add o_add (je_op op_add o_add (je_op op_mulW o_mul (je_var (pv 3)) (je_var (pv 3))) (je_op op_mulW o_mul (je_var (pv 1)) (je_c pe_int))) (je_c pe_int)) (ja_nil))) (je_c pe_int)))
    (jb_cons (js_set (i := 5) hx (je_op op_mod o_mod (je_ty call_int1 o_int (by rfl) B.int (by decide +kernel) (ja_cons (je_op op_add o_add (je_op op_add o_add (je_op op_mulW o_mul (je_var (pv 4)) (je_var (pv 4))) (je_var (pv 3))) (je_op op_mulW o_mul (je_op op_mulW o_mul (je_var (pv 1)) (je_var (pv 1))) (je_c pe_int))) (ja_nil))) (je_c pe_int)))
    (jb_one (js_ret (je_op op_add o_add (je_op op_mulW o_mul (je_op op_add o_add (je_op op_mulW o_mul (je_var (pv 5)) (je_c pe_int)) (je_var (pv 4))) (je_c pe_int)) (je_var (pv 3))))))))))))
/-! _law_draw -/
abbrev s__law_draw : Stmt := topS 25
theorem sc__law_draw : FnScope ["pen", "under", "digit"] ["pen", "under"] (defScope s__law_draw) := ⟨rfl, rfl, rfl, by decide +kernel, rfl, by decide +kernel, by decide +kernel⟩
theorem ok__law_draw (B : Bi mg) {f__law_next : Addr} {fd__law_next : FuncData} (D__law_next : DefOk K mg "_law_next" s__law_next ["pen"] f__law_next fd__law_next) (ok__law_next : FnOk P w K mg base (L2.CX P w) 1 f__law_next fd__law_next ["pen"] (spF K cls T 1 F__law_next)) {f : Addr} {fd : FuncData} (D : DefOk K mg "_law_draw" s__law_draw ["pen", "under"] f fd) : FnOk P w K mg base (L2.CX P w) 2 f fd ["pen", "under"] (spF K cls T 2 F__law_draw) :=
  fnK_go (k := 1) (n := 1) (m := m__law_draw) D sc__law_draw rfl fun pa H0 mu0 ow0 cdv hcdv A outer s H E hr hx tk po =>
    jb_cons (js_if (jt_cmp op_lt o_lt (je_ix ix_list o_ixP (je_var (pv 0)) (je_c pe_int) (fun _ _ => rfl)) (je_var (pv 1))) (jb_one (js_setpen (je_callK hx tk ok__law_next (hr.mono (by decide : 1 ≤ _)) D__law_next.g D__law_next.k D__law_next.b (ja_cons (je_var (pv 0)) (ja_nil))) (je_var (pv 0)) (je_c pe_int) (pg_sub (je_var (pv 0)).pe (je_c pe_int).pe set_list))) (jb_nil))
    (jb_cons (js_set (i := 2) hx (je_op op_mod o_mod (je_ty call_int1 o_int (by rfl) B.int (by decide +kernel) (ja_cons (je_ix ix_list o_ixP (je_var (pv 0)) (je_c pe_int) (fun _ _ => rfl)) (ja_nil))) (je_var (pv 1))))
    (jb_cons (js_setpen (je_op op_fdivW o_div (je_ix ix_list o_ixP (je_var (pv 0)) (je_c pe_int) (fun _ _ => rfl)) (je_var (pv 1))) (je_var (pv 0)) (je_c pe_int) (pg_sub (je_var (pv 0)).pe (je_c pe_int).pe set_list))
    (jb_one (js_ret (je_var (pv 2))))))
/-! _law_shuffled -/
abbrev s__law_shuffled : Stmt := topS 26
theorem sc__law_shuffled : FnScope ["pen", "items", "rest", "found"] ["pen", "items"] (defScope s__law_shuffled) := ⟨rfl, rfl, rfl, by decide +kernel, rfl, by decide +kernel, by decide +kernel⟩
theorem ok__law_shuffled (B : Bi mg) {f__law_draw : Addr} {fd__law_draw : FuncData} (D__law_draw : DefOk K mg "_law_draw" s__law_draw ["pen", "under"] f__law_draw fd__law_draw) (ok__law_draw : FnOk P w K mg base (L2.CX P w) 2 f__law_draw fd__law_draw ["pen", "under"] (spF K cls T 2 F__law_draw)) {f : Addr} {fd : FuncData} (D : DefOk K mg "_law_shuffled" s__law_shuffled ["pen", "items"] f fd) : FnOk P w K mg base (L2.CX P w) 3 f fd ["pen", "items"] (spF K cls T 2 F__law_shuffled) :=
  fnK_go (k := 2) (n := 2) (m := m__law_shuffled) D sc__law_shuffled rfl fun pa H0 mu0 ow0 cdv hcdv A outer s H E hr hx tk po =>
    jb_cons (js_par (oi := true) (oj := true) (i := 2) (j := 3) hx (je_ty call_list_of o_list (by rfl) B.list (by decide +kernel) (ja_cons (je_var (pv 1)) (ja_nil))) (je_lst (ja_nil)) (by rfl))
    (jb_cons (js_while (n := 100) po (jt_cmp (OpR.or op_ne (op_neD hr.units)) o_ne (je_var (pv 2)) (je_lst (ja_nil))) (jb_one (jp_append (i := 3) (pv 3) (pe_pop (i := 2) (pv 2) (je_callK hx tk ok__law_draw (hr.mono (by decide : 2 ≤ _)) D__law_draw.g D__law_draw.k D__law_draw.b (ja_cons (je_var (pv 0)) (ja_cons (je_bi call_len o_len (by rfl) B.len (by decide +kernel) (ja_cons (je_var (pv 2)) (ja_nil))) (ja_nil))))))))
    (jb_one (js_ret (je_var (pv 3)))))
/-! _law_part -/
abbrev s__law_part : Stmt := topS 27
theorem sc__law_part : FnScope ["table", "rows", "columns", "row", "column"] ["table", "rows", "columns"] (defScope s__law_part) := ⟨rfl, rfl, rfl, by decide +kernel, rfl, by decide +kernel, by decide +kernel⟩
theorem ok__law_part (B : Bi mg) {f : Addr} {fd : FuncData} (D : DefOk K mg "_law_part" s__law_part ["table", "rows", "columns"] f fd) : FnOk P w K mg base (L2.CX P w) 1 f fd ["table", "rows", "columns"] (spF K cls T 3 F__law_part) :=
  fnK_go (k := 0) (n := 2) (m := m__law_part) D sc__law_part rfl fun pa H0 mu0 ow0 cdv hcdv A outer s H E hr hx tk po =>
    jb_one (js_ret (je_ty call_tuple_of o_tuple (by rfl) B.tuple (by decide +kernel) (ja_cons (je_lc (own := [("row", 3)]) (t := (.one 3)) hx (ji_seq hx (je_var (pv 1))) (blkOk_by (own := [("row", 3)]) (by dsimp only [cxOf, Cx.blk, compEnvC]; (try simp only [relabel_eq]); dsimp only [envOfC]; decide +kernel)) (by decide) (fun _ _ _ _ _ => pg_name (i := 3) (hx.blk _ _ _ _ _).nd rfl (by first | exact Or.inl rfl | exact Or.inr rfl)) (fun _ _ _ _ _ => jc_nil) (fun _ _ _ _ _ => je_join (hx.blk _ _ _ _ _) (je_c pe_str) (je_lc (own := [("column", 4)]) (t := (.one 4)) (hx.blk _ _ _ _ _) (ji_seq (hx.blk _ _ _ _ _) (je_var (pv 2))) (blkOk_by (own := [("column", 4)]) (by dsimp only [cxOf, Cx.blk, compEnvC]; (try simp only [relabel_eq]); dsimp only [envOfC]; decide +kernel)) (by decide) (fun _ _ _ _ _ => pg_name (i := 4) ((hx.blk _ _ _ _ _).blk _ _ _ _ _).nd rfl (by first | exact Or.inl rfl | exact Or.inr rfl)) (fun _ _ _ _ _ => jc_nil) (fun _ _ _ _ _ => je_ix ix_str o_ixS (je_ix ix_tup o_ixT (je_var (pv 0)) (je_var (pv 3)) (fun _ _ => rfl)) (je_var (pv 4)) (fun _ _ => rfl)) s)) s) (ja_nil))))
/-! _law_with -/
abbrev s__law_with : Stmt := topS 28
theorem sc__law_with : FnScope ["table", "row", "column", "sign", "text"] ["table", "row", "column", "sign"] (defScope s__law_with) := ⟨rfl, rfl, rfl, by decide +kernel, rfl, by decide +kernel, by decide +kernel⟩
theorem ok__law_with {f : Addr} {fd : FuncData} (D : DefOk K mg "_law_with" s__law_with ["table", "row", "column", "sign"] f fd) : FnOk P w K mg base (L2.CX P w) 1 f fd ["table", "row", "column", "sign"] (spF K cls T 4 F__law_with) :=
  fnK_go (k := 0) (n := 1) (m := m__law_with) D sc__law_with rfl fun pa H0 mu0 ow0 cdv hcdv A outer s H E hr hx tk po =>
    jb_cons (js_set (i := 4) hx (je_ix ix_tup o_ixT (je_var (pv 0)) (je_var (pv 1)) (fun _ _ => rfl)))
    (jb_one (js_ret (je_op op_catA o_catT (je_op op_catA o_catT (je_slice sl_tupA o_slT (je_var (pv 0)) (jo_none) (jo_some (je_var (pv 1)))) (je_tup (ja_cons (je_op op_add_str o_catS (je_op op_add_str o_catS (je_slice sl_str o_slS (je_var (pv 4)) (jo_none) (jo_some (je_var (pv 2)))) (je_var (pv 3))) (je_slice sl_str o_slS (je_var (pv 4)) (jo_some (je_op op_add o_add (je_var (pv 2)) (je_c pe_int))) (jo_none))) (ja_nil)))) (je_slice sl_tupA o_slT (je_var (pv 0)) (jo_some (je_op op_add o_add (je_var (pv 1)) (je_c pe_int))) (jo_none)))))
/-! _law_ringed -/
abbrev s__law_ringed : Stmt := topS 29
theorem sc__law_ringed : FnScope ["size", "found", "row", "column"] ["size"] (defScope s__law_ringed) := ⟨rfl, rfl, rfl, by decide +kernel, rfl, by decide +kernel, by decide +kernel⟩
theorem ok__law_ringed (B : Bi mg) {f : Addr} {fd : FuncData} (D : DefOk K mg "_law_ringed" s__law_ringed ["size"] f fd) : FnOk P w K mg base (L2.CX P w) 1 f fd ["size"] (spF K cls T 1 F__law_ringed) :=
  fnK_go (k := 0) (n := 3) (m := m__law_ringed) D sc__law_ringed rfl fun pa H0 mu0 ow0 cdv hcdv A outer s H E hr hx tk po =>
    jb_cons (js_setO (i := 1) hx (je_lst (ja_nil)))
    (jb_cons (js_for (t := (.one 2)) po hx (ji_range1 (je_var (pv 0)) B.range) (pg_name (i := 2) hx.nd rfl (by first | exact Or.inl rfl | exact Or.inr rfl)) (jb_one (jp_append (i := 1) (pv 1) ((je_join hx (je_c pe_str) (je_lc (own := [("column", 3)]) (t := (.one 3)) hx (ji_range1 (je_var (pv 0)) B.range) (blkOk_by (own := [("column", 3)]) (by dsimp only [cxOf, Cx.blk, compEnvC]; (try simp only [relabel_eq]); dsimp only [envOfC]; decide +kernel)) (by decide) (fun _ _ _ _ _ => pg_name (i := 3) (hx.blk _ _ _ _ _).nd rfl (by first | exact Or.inl rfl | exact Or.inr rfl)) (fun _ _ _ _ _ => jc_nil) (fun _ _ _ _ _ => je_if (jt_cmp op_in_seq (o_in false) (je_var (pv 3)) (je_tup (ja_cons (je_var (pv 2)) (ja_cons (je_op op_mod o_mod (je_op op_add o_add (je_var (pv 2)) (je_c pe_int)) (je_var (pv 0))) (ja_nil))))) (je_c pe_str) (je_c pe_str)) s)).pe))))
    (jb_one (js_ret (je_ty call_tuple_of o_tuple (by rfl) B.tuple (by decide +kernel) (ja_cons (je_var (pv 1)) (ja_nil))))))
/-! _law_steps -/
abbrev s__law_steps : Stmt := topS 30
theorem sc__law_steps : FnScope ["tree", "node", "other", "one", "two", "steps", "lap"] ["tree", "node", "other"] (defScope s__law_steps) := ⟨rfl, rfl, rfl, by decide +kernel, rfl, by decide +kernel, by decide +kernel⟩
theorem ok__law_steps (B : Bi mg) {f : Addr} {fd : FuncData} (D : DefOk K mg "_law_steps" s__law_steps ["tree", "node", "other"] f fd) : FnOk P w K mg base (L2.CX P w) 1 f fd ["tree", "node", "other"] (spF K cls T 3 F__law_steps) :=
  fnK_go (k := 0) (n := 4) (m := m__law_steps) D sc__law_steps rfl fun pa H0 mu0 ow0 cdv hcdv A outer s H E hr hx tk po =>
    jb_cons (js_par3 (i := 3) (j := 4) (l := 5) hx (je_var (pv 1)) (je_var (pv 2)) (je_c pe_int) (by rfl))
    (jb_cons (js_for (t := (.one 6)) po hx (ji_range1 (je_op op_add o_add (je_op op_mulW o_mul (je_c pe_int) (je_bi call_len o_len (by rfl) B.len (by decide +kernel) (ja_cons (je_var (pv 0)) (ja_nil)))) (je_c pe_int)) B.range) (pg_name (i := 6) hx.nd rfl (by first | exact Or.inl rfl | exact Or.inr rfl)) (jb_cons (js_if (jt_cmp (OpR.or op_eq (op_eqD hr.units)) o_eq (je_var (pv 3)) (je_var (pv 4))) (jb_one (js_ret (je_var (pv 5)))) (jb_nil))
    (jb_cons (js_if (jt_cmp op_gt o_gt (je_var (pv 3)) (je_var (pv 4))) (jb_one (js_set (i := 3) hx (je_ix ix_tup o_ixT (je_var (pv 0)) (je_op op_sub o_sub (je_var (pv 3)) (je_c pe_int)) (fun _ _ => rfl)))) (jb_one (js_set (i := 4) hx (je_ix ix_tup o_ixT (je_var (pv 0)) (je_op op_sub o_sub (je_var (pv 4)) (je_c pe_int)) (fun _ _ => rfl)))))
    (jb_one (js_set (i := 5) hx (je_op op_add o_add (je_var (pv 5)) (je_c pe_int)))))))
    (jb_one (js_ret (je_var (pv 5)))))
/-! _law_balls -/
abbrev s__law_balls : Stmt := topS 31
theorem sc__law_balls : FnScope ["tree", "balls", "found", "node", "wide", "row", "other"] ["tree", "balls"] (defScope s__law_balls) := ⟨rfl, rfl, rfl, by decide +kernel, rfl, by decide +kernel, by decide +kernel⟩
theorem ok__law_balls (B : Bi mg) {f__law_steps : Addr} {fd__law_steps : FuncData} (D__law_steps : DefOk K mg "_law_steps" s__law_steps ["tree", "node", "other"] f__law_steps fd__law_steps) (ok__law_steps : FnOk P w K mg base (L2.CX P w) 1 f__law_steps fd__law_steps ["tree", "node", "other"] (spF K cls T 3 F__law_steps)) {f : Addr} {fd : FuncData} (D : DefOk K mg "_law_balls" s__law_balls ["tree", "balls"] f fd) : FnOk P w K mg base (L2.CX P w) 2 f fd ["tree", "balls"] (spF K cls T 2 F__law_balls) :=
  fnK_go (k := 1) (n := 5) (m := m__law_balls) D sc__law_balls rfl fun pa H0 mu0 ow0 cdv hcdv A outer s H E hr hx tk po =>
    jb_cons (js_setO (i := 2) hx (je_lst (ja_nil)))
    (jb_cons (js_for (t := (.two 3 4)) po hx (ji_list hx (je_var (pv 1))) (pg_tup hx.calm (pgs_cons (pg_name (i := 3) hx.nd rfl (by first | exact Or.inl rfl | exact Or.inr rfl)) (pgs_cons (pg_name (i := 4) hx.nd rfl (by first | exact Or.inl rfl | exact Or.inr rfl)) pgs_nil))) (jb_cons (js_setLc (i := 5) (o := false) (own := [("other", 6)]) (t := (.one 6)) hx (ji_range1 (je_op op_add o_add (je_bi call_len o_len (by rfl) B.len (by decide +kernel) (ja_cons (je_var (pv 0)) (ja_nil))) (je_c pe_int)) B.range) (blkOk_by (own := [("other", 6)]) (by dsimp only [cxOf, Cx.blk, compEnvC]; (try simp only [relabel_eq]); dsimp only [envOfC]; decide +kernel)) (by decide) (fun _ _ _ _ _ => pg_name (i := 6) (hx.blk _ _ _ _ _).nd rfl (by first | exact Or.inl rfl | exact Or.inr rfl)) (fun _ _ _ _ _ => jc_nil) (fun _ _ _ _ _ => je_if (jt_cmp op_le o_le (je_callK (hx.blk _ _ _ _ _) L2.takes0 ok__law_steps (hr.mono (by decide : 1 ≤ _)) D__law_steps.g D__law_steps.k D__law_steps.b (ja_cons (je_var (pv 0)) (ja_cons (je_var (pv 3)) (ja_cons (je_var (pv 6)) (ja_nil))))) (je_var (pv 4))) (je_c pe_str) (je_c pe_str)) s (sw_true rfl rfl rfl (by decide +kernel)))
    (jb_one (jp_append (i := 2) (pv 2) ((je_join hx (je_c pe_str) (je_var (pv 5))).pe)))))
    (jb_one (js_ret (je_ty call_tuple_of o_tuple (by rfl) B.tuple (by decide +kernel) (ja_cons (je_var (pv 2)) (ja_nil))))))
/-! _law_table -/
abbrev s__law_table : Stmt := topS 32
theorem sc__law_table : FnScope ["pen", "most", "rows", "columns", "road", "thick", "table", "lap", "tree", "row", "column", "ends", "node", "one", "two", "k", "order"] ["pen", "most"] (defScope s__law_table) := ⟨rfl, rfl, rfl, by decide +kernel, rfl, by decide +kernel, by decide +kernel⟩
theorem ok__law_table (B : Bi mg) {f__law_draw : Addr} {fd__law_draw : FuncData} (D__law_draw : DefOk K mg "_law_draw" s__law_draw ["pen", "under"] f__law_draw fd__law_draw) (ok__law_draw : FnOk P w K mg base (L2.CX P w) 2 f__law_draw fd__law_draw ["pen", "under"] (spF K cls T 2 F__law_draw)) {f__law_ringed : Addr} {fd__law_ringed : FuncData} (D__law_ringed : DefOk K mg "_law_ringed" s__law_ringed ["size"] f__law_ringed fd__law_ringed) (ok__law_ringed : FnOk P w K mg base (L2.CX P w) 1 f__law_ringed fd__law_ringed ["size"] (spF K cls T 1 F__law_ringed)) {f__law_with : Addr} {fd__law_with : FuncData} (D__law_with : DefOk K mg "_law_with" s__law_with ["table", "row", "column", "sign"] f__law_with fd__law_with) (ok__law_with : FnOk P w K mg base (L2.CX P w) 1 f__law_with fd__law_with ["table", "row", "column", "sign"] (spF K cls T 4 F__law_with)) {f__law_balls : Addr} {fd__law_balls : FuncData} (D__law_balls : DefOk K mg "_law_balls" s__law_balls ["tree", "balls"] f__law_balls fd__law_balls) (ok__law_balls : FnOk P w K mg base (L2.CX P w) 2 f__law_balls fd__law_balls ["tree", "balls"] (spF K cls T 2 F__law_balls)) {f__law_shuffled : Addr} {fd__law_shuffled : FuncData} (D__law_shuffled : DefOk K mg "_law_shuffled" s__law_shuffled ["pen", "items"] f__law_shuffled fd__law_shuffled) (ok__law_shuffled : FnOk P w K mg base (L2.CX P w) 3 f__law_shuffled fd__law_shuffled ["pen", "items"] (spF K cls T 2 F__law_shuffled)) {f__law_part : Addr} {fd__law_part : FuncData} (D__law_part : DefOk K mg "_law_part" s__law_part ["table", "rows", "columns"] f__law_part fd__law_part) (ok__law_part : FnOk P w K mg base (L2.CX P w) 1 f__law_part fd__law_part ["table", "rows", "columns"] (spF K cls T 3 F__law_part)) {f : Addr} {fd : FuncData} (D : DefOk K mg "_law_table" s__law_table ["pen", "most"] f fd) : FnOk P w K mg base (L2.CX P w) 4 f fd ["pen", "most"] (spF K cls T 2 F__law_table) :=
  fnK_go (k := 3) (n := 15) (m := m__law_table) D sc__law_table rfl fun pa H0 mu0 ow0 cdv hcdv A outer s H E hr hx tk po =>
    jb_cons (js_tset (t := (.two 2 3)) (je_tup (ja_cons (je_op op_add o_add (je_c pe_int) (je_callK hx tk ok__law_draw (hr.mono (by decide : 2 ≤ _)) D__law_draw.g D__law_draw.k D__law_draw.b (ja_cons (je_var (pv 0)) (ja_cons (je_var (pv 1)) (ja_nil))))) (ja_cons (je_op op_add o_add (je_c pe_int) (je_callK hx tk ok__law_draw (hr.mono (by decide : 2 ≤ _)) D__law_draw.g D__law_draw.k D__law_draw.b (ja_cons (je_var (pv 0)) (ja_cons (je_var (pv 1)) (ja_nil))))) (ja_nil)))) (pg_tup hx.calm (pgs_cons (pg_name (i := 2) hx.nd rfl (by first | exact Or.inl rfl | exact Or.inr rfl)) (pgs_cons (pg_name (i := 3) hx.nd rfl (by first | exact Or.inl rfl | exact Or.inr rfl)) pgs_nil))))
    (jb_cons (js_tset (t := (.two 4 5)) (je_tup (ja_cons (je_callK hx tk ok__law_draw (hr.mono (by decide : 2 ≤ _)) D__law_draw.g D__law_draw.k D__law_draw.b (ja_cons (je_var (pv 0)) (ja_cons (je_c pe_int) (ja_nil)))) (ja_cons (je_op op_add o_add (je_c pe_int) (je_callK hx tk ok__law_draw (hr.mono (by decide : 2 ≤ _)) D__law_draw.g D__law_draw.k D__law_draw.b (ja_cons (je_var (pv 0)) (ja_cons (je_c pe_int) (ja_nil))))) (ja_nil)))) (pg_tup hx.calm (pgs_cons (pg_name (i := 4) hx.nd rfl (by first | exact Or.inl rfl | exact Or.inr rfl)) (pgs_cons (pg_name (i := 5) hx.nd rfl (by first | exact Or.inl rfl | exact Or.inr rfl)) pgs_nil))))
    (jb_cons (js_if ((jw_and (jt_cmp op_lt o_lt (je_var (pv 4)) (je_c pe_int)) (jw_and1 (jt_cmp op_gt o_gt (je_var (pv 1)) (je_c pe_int)))).jt) (jb_cons (js_set (i := 6) hx (je_callK hx tk ok__law_ringed (hr.mono (by decide : 1 ≤ _)) D__law_ringed.g D__law_ringed.k D__law_ringed.b (ja_cons (je_op op_add o_add (je_c pe_int) (je_callK hx tk ok__law_draw (hr.mono (by decide : 2 ≤ _)) D__law_draw.g D__law_draw.k D__law_draw.b (ja_cons (je_var (pv 0)) (ja_cons (je_op op_sub o_sub (je_var (pv 1)) (je_c pe_int)) (ja_nil))))) (ja_nil))))
    (jb_one (js_for (t := (.one 7)) po hx (ji_range1 (je_callK hx tk ok__law_draw (hr.mono (by decide : 2 ≤ _)) D__law_draw.g D__law_draw.k D__law_draw.b (ja_cons (je_var (pv 0)) (ja_cons (je_c pe_int) (ja_nil)))) B.range) (pg_name (i := 7) hx.nd rfl (by first | exact Or.inl rfl | exact Or.inr rfl)) (jb_cons (js_par (oi := false) (oj := false) (i := 9) (j := 10) hx (je_callK hx tk ok__law_draw (hr.mono (by decide : 2 ≤ _)) D__law_draw.g D__law_draw.k D__law_draw.b (ja_cons (je_var (pv 0)) (ja_cons (je_bi call_len o_len (by rfl) B.len (by decide +kernel) (ja_cons (je_var (pv 6)) (ja_nil))) (ja_nil)))) (je_callK hx tk ok__law_draw (hr.mono (by decide : 2 ≤ _)) D__law_draw.g D__law_draw.k D__law_draw.b (ja_cons (je_var (pv 0)) (ja_cons (je_bi call_len o_len (by rfl) B.len (by decide +kernel) (ja_cons (je_var (pv 6)) (ja_nil))) (ja_nil)))) (by rfl))
    (jb_one (js_set (i := 6) hx (je_callK hx tk ok__law_with (hr.mono (by decide : 1 ≤ _)) D__law_with.g D__law_with.k D__law_with.b (ja_cons (je_var (pv 6)) (ja_cons (je_var (pv 9)) (ja_cons (je_var (pv 10)) (ja_cons (je_ix ix_str o_ixS (je_c pe_str) (je_callK hx tk ok__law_draw (hr.mono (by decide : 2 ≤ _)) D__law_draw.g D__law_draw.k D__law_draw.b (ja_cons (je_var (pv 0)) (ja_cons (je_c pe_int) (ja_nil)))) (fun _ _ => rfl)) (ja_nil)))))))))))) (jb_one (js_if (jt_cmp op_lt o_lt (je_var (pv 4)) (je_c pe_int)) (jb_cons (js_set (i := 8) hx (je_ty call_tuple_of o_tuple (by rfl) B.tuple (by decide +kernel) (ja_cons (je_lc (own := [("node", 12)]) (t := (.one 12)) hx (ji_range1 (je_op op_sub o_sub (je_var (pv 3)) (je_c pe_int)) B.range) (blkOk_by (own := [("node", 12)]) (by dsimp only [cxOf, Cx.blk, compEnvC]; (try simp only [relabel_eq]); dsimp only [envOfC]; decide +kernel)) (by decide) (fun _ _ _ _ _ => pg_name (i := 12) (hx.blk _ _ _ _ _).nd rfl (by first | exact Or.inl rfl | exact Or.inr rfl)) (fun _ _ _ _ _ => jc_nil) (fun _ _ _ _ _ => je_callK (hx.blk _ _ _ _ _) L2.takes0 ok__law_draw (hr.mono (by decide : 2 ≤ _)) D__law_draw.g D__law_draw.k D__law_draw.b (ja_cons (je_var (pv 0)) (ja_cons (je_op op_add o_add (je_var (pv 12)) (je_c pe_int)) (ja_nil)))) s) (ja_nil))))
    (jb_one (js_set (i := 6) hx (je_callK hx tk ok__law_balls (hr.mono (by decide : 2 ≤ _)) D__law_balls.g D__law_balls.k D__law_balls.b (ja_cons (je_var (pv 8)) (ja_cons (je_lc (own := [("row", 9)]) (t := (.one 9)) hx (ji_range1 (je_var (pv 2)) B.range) (blkOk_by (own := [("row", 9)]) (by dsimp only [cxOf, Cx.blk, compEnvC]; (try simp only [relabel_eq]); dsimp only [envOfC]; decide +kernel)) (by decide) (fun _ _ _ _ _ => pg_name (i := 9) (hx.blk _ _ _ _ _).nd rfl (by first | exact Or.inl rfl | exact Or.inr rfl)) (fun _ _ _ _ _ => jc_nil) (fun _ _ _ _ _ => je_tup (ja_cons (je_callK (hx.blk _ _ _ _ _) L2.takes0 ok__law_draw (hr.mono (by decide : 2 ≤ _)) D__law_draw.g D__law_draw.k D__law_draw.b (ja_cons (je_var (pv 0)) (ja_cons (je_var (pv 3)) (ja_nil)))) (ja_cons (je_callK (hx.blk _ _ _ _ _) L2.takes0 ok__law_draw (hr.mono (by decide : 2 ≤ _)) D__law_draw.g D__law_draw.k D__law_draw.b (ja_cons (je_var (pv 0)) (ja_cons (je_c pe_int) (ja_nil)))) (ja_nil)))) s) (ja_nil))))))) (jb_one (js_if (jt_cmp (OpR.or op_eq (op_eqD hr.units)) o_eq (je_var (pv 4)) (je_c pe_int)) (jb_cons (js_setLc (i := 11) (o := false) (own := [("row", 9)]) (t := (.one 9)) hx (ji_range1 (je_var (pv 2)) B.range) (blkOk_by (own := [("row", 9)]) (by dsimp only [cxOf, Cx.blk, compEnvC]; (try simp only [relabel_eq]); dsimp only [envOfC]; decide +kernel)) (by decide) (fun _ _ _ _ _ => pg_name (i := 9) (hx.blk _ _ _ _ _).nd rfl (by first | exact Or.inl rfl | exact Or.inr rfl)) (fun _ _ _ _ _ => jc_nil) (fun _ _ _ _ _ => je_tup (ja_cons (je_callK (hx.blk _ _ _ _ _) L2.takes0 ok__law_draw (hr.mono (by decide : 2 ≤ _)) D__law_draw.g D__law_draw.k D__law_draw.b (ja_cons (je_var (pv 0)) (ja_cons (je_var (pv 3)) (ja_nil)))) (ja_cons (je_callK (hx.blk _ _ _ _ _) L2.takes0 ok__law_draw (hr.mono (by decide : 2 ≤ _)) D__law_draw.g D__law_draw.k D__law_draw.b (ja_cons (je_var (pv 0)) (ja_cons (je_op op_add o_add (je_var (pv 3)) (je_c pe_int)) (ja_nil)))) (ja_nil)))) s (sw_true rfl rfl rfl (by decide +kernel)))
    (jb_one (js_set (i := 6) hx (je_ty call_tuple_of o_tuple (by rfl) B.tuple (by decide +kernel) (ja_cons (je_lc (own := [("one", 13), ("two", 14)]) (t := (.two 13 14)) hx (ji_list hx (je_var (pv 11))) (blkOk_by (own := [("one", 13), ("two", 14)]) (by dsimp only [cxOf, Cx.blk, compEnvC]; (try simp only [relabel_eq]); dsimp only [envOfC]; decide +kernel)) (by decide) (fun _ _ _ _ _ => pg_tup (hx.blk _ _ _ _ _).calm (pgs_cons (pg_name (i := 13) (hx.blk _ _ _ _ _).nd rfl (by first | exact Or.inl rfl | exact Or.inr rfl)) (pgs_cons (pg_name (i := 14) (hx.blk _ _ _ _ _).nd rfl (by first | exact Or.inl rfl | exact Or.inr rfl)) pgs_nil))) (fun _ _ _ _ _ => jc_nil) (fun _ _ _ _ _ => je_join (hx.blk _ _ _ _ _) (je_c pe_str) (je_lc (own := [("k", 15)]) (t := (.one 15)) (hx.blk _ _ _ _ _) (ji_range1 (je_var (pv 3)) B.range) (blkOk_by (own := [("k", 15)]) (by dsimp only [cxOf, Cx.blk, compEnvC]; (try simp only [relabel_eq]); dsimp only [envOfC]; decide +kernel)) (by decide) (fun _ _ _ _ _ => pg_name (i := 15) ((hx.blk _ _ _ _ _).blk _ _ _ _ _).nd rfl (by first | exact Or.inl rfl | exact Or.inr rfl)) (fun _ _ _ _ _ => jc_nil) (fun _ _ _ _ _ => je_if (jt_chain op_le op_lt o_le o_lt (je_var (pv 13)) (je_var (pv 15)) (je_var (pv 14))) (je_c pe_str) (je_c pe_str)) s)) s) (ja_nil)))))) (jb_one (js_set (i := 6) hx (je_ty call_tuple_of o_tuple (by rfl) B.tuple (by decide +kernel) (ja_cons (je_lc (own := [("row", 9)]) (t := (.one 9)) hx (ji_range1 (je_var (pv 2)) B.range) (blkOk_by (own := [("row", 9)]) (by dsimp only [cxOf, Cx.blk, compEnvC]; (try simp only [relabel_eq]); dsimp only [envOfC]; decide +kernel)) (by decide) (fun _ _ _ _ _ => pg_name (i := 9) (hx.blk _ _ _ _ _).nd rfl (by first | exact Or.inl rfl | exact Or.inr rfl)) (fun _ _ _ _ _ => jc_nil) (fun _ _ _ _ _ => je_join (hx.blk _ _ _ _ _) (je_c pe_str) (je_lc (own := [("k", 15)]) (t := (.one 15)) (hx.blk _ _ _ _ _) (ji_range1 (je_var (pv 3)) B.range) (blkOk_by (own := [("k", 15)]) (by dsimp only [cxOf, Cx.blk, compEnvC]; (try simp only [relabel_eq]); dsimp only [envOfC]; decide +kernel)) (by decide) (fun _ _ _ _ _ => pg_name (i := 15) ((hx.blk _ _ _ _ _).blk _ _ _ _ _).nd rfl (by first | exact Or.inl rfl | exact Or.inr rfl)) (fun _ _ _ _ _ => jc_nil) (fun _ _ _ _ _ => je_ix ix_str o_ixS (je_c pe_str) (je_bi (call_min2 ((hx.blk _ _ _ _ _).blk _ _ _ _ _).calm) o_min (by rfl) B.min (by decide +kernel) (ja_cons (je_c pe_int) (ja_cons (je_callK ((hx.blk _ _ _ _ _).blk _ _ _ _ _) L2.takes0 ok__law_draw (hr.mono (by decide : 2 ≤ _)) D__law_draw.g D__law_draw.k D__law_draw.b (ja_cons (je_var (pv 0)) (ja_cons (je_var (pv 5)) (ja_nil)))) (ja_nil)))) (fun _ _ => rfl)) s)) s) (ja_nil))))))))))
    (jb_cons (js_set (i := 16) hx (je_callK hx tk ok__law_shuffled (hr.mono (by decide : 3 ≤ _)) D__law_shuffled.g D__law_shuffled.k D__law_shuffled.b (ja_cons (je_var (pv 0)) (ja_cons (je_listR hx (je_bi call_len o_len (by rfl) B.len (by decide +kernel) (ja_cons (je_var (pv 6)) (ja_nil))) B.list B.range) (ja_nil)))))
    (jb_one (js_ret (je_callK hx tk ok__law_part (hr.mono (by decide : 1 ≤ _)) D__law_part.g D__law_part.k D__law_part.b (ja_cons (je_var (pv 6)) (ja_cons (je_var (pv 16)) (ja_cons (je_callK hx tk ok__law_shuffled (hr.mono (by decide : 3 ≤ _)) D__law_shuffled.g D__law_shuffled.k D__law_shuffled.b (ja_cons (je_var (pv 0)) (ja_cons (je_listR hx (je_bi call_len o_len (by rfl) B.len (by decide +kernel) (ja_cons (je_ix ix_tup o_ixT (je_var (pv 6)) (je_c pe_int) (fun _ _ => rfl)) (ja_nil))) B.list B.range) (ja_nil)))) (ja_nil))))))))))
/-! _law_some -/
abbrev s__law_some : Stmt := topS 33
theorem sc__law_some : FnScope ["pen", "pool", "most", "rest", "lap"] ["pen", "pool", "most"] (defScope s__law_some) := ⟨rfl, rfl, rfl, by decide +kernel, rfl, by decide +kernel, by decide +kernel⟩
theorem ok__law_some (B : Bi mg) {f__law_draw : Addr} {fd__law_draw : FuncData} (D__law_draw : DefOk K mg "_law_draw" s__law_draw ["pen", "under"] f__law_draw fd__law_draw) (ok__law_draw : FnOk P w K mg base (L2.CX P w) 2 f__law_draw fd__law_draw ["pen", "under"] (spF K cls T 2 F__law_draw)) {f : Addr} {fd : FuncData} (D : DefOk K mg "_law_some" s__law_some ["pen", "pool", "most"] f fd) : FnOk P w K mg base (L2.CX P w) 3 f fd ["pen", "pool", "most"] (spF K cls T 3 F__law_some) :=
  fnK_go (k := 2) (n := 2) (m := m__law_some) D sc__law_some rfl fun pa H0 mu0 ow0 cdv hcdv A outer s H E hr hx tk po =>
    jb_cons (js_setO (i := 3) hx (je_ty call_list_of o_list (by rfl) B.list (by decide +kernel) (ja_cons (je_var (pv 1)) (ja_nil))))
    (jb_one (jp_ret (pe_lcL (own := [("lap", 4)]) (t := (.one 4)) hx (ji_range1 (je_callK hx tk ok__law_draw (hr.mono (by decide : 2 ≤ _)) D__law_draw.g D__law_draw.k D__law_draw.b (ja_cons (je_var (pv 0)) (ja_cons (je_op op_add o_add (je_bi (call_min2 hx.calm) o_min (by rfl) B.min (by decide +kernel) (ja_cons (je_var (pv 2)) (ja_cons (je_bi call_len o_len (by rfl) B.len (by decide +kernel) (ja_cons (je_var (pv 3)) (ja_nil))) (ja_nil)))) (je_c pe_int)) (ja_nil)))) B.range) (blkOk_by (own := [("lap", 4)]) (by dsimp only [cxOf, Cx.blk, compEnvC]; (try simp only [relabel_eq]); dsimp only [envOfC]; decide +kernel)) (by decide) (fun _ _ _ _ _ => pg_name (i := 4) (hx.blk _ _ _ _ _).nd rfl (by first | exact Or.inl rfl | exact Or.inr rfl)) (fun _ _ _ _ _ => jc_nil) (fun _ _ _ _ _ => pe_pop (i := 3) (pv 3) (je_callK (hx.blk _ _ _ _ _) L2.takes0 ok__law_draw (hr.mono (by decide : 2 ≤ _)) D__law_draw.g D__law_draw.k D__law_draw.b (ja_cons (je_var (pv 0)) (ja_cons (je_bi call_len o_len (by rfl) B.len (by decide +kernel) (ja_cons (je_var (pv 3)) (ja_nil))) (ja_nil))))) s)))
/-! _law_turned -/
abbrev s__law_turned : Stmt := topS 34
theorem sc__law_turned : FnScope ["table", "k", "row"] ["table"] (defScope s__law_turned) := ⟨rfl, rfl, rfl, by decide +kernel, rfl, by decide +kernel, by decide +kernel⟩
theorem ok__law_turned (B : Bi mg) {f : Addr} {fd : FuncData} (D : DefOk K mg "_law_turned" s__law_turned ["table"] f fd) : FnOk P w K mg base (L2.CX P w) 1 f fd ["table"] (spF K cls T 1 F__law_turned) :=
  fnK_go (k := 0) (n := 2) (m := m__law_turned) D sc__law_turned rfl fun pa H0 mu0 ow0 cdv hcdv A outer s H E hr hx tk po =>
    jb_one (js_ret (je_ty call_tuple_of o_tuple (by rfl) B.tuple (by decide +kernel) (ja_cons (je_lc (own := [("k", 1)]) (t := (.one 1)) hx (ji_range1 (je_bi call_len o_len (by rfl) B.len (by decide +kernel) (ja_cons (je_ix ix_tup o_ixT (je_var (pv 0)) (je_c pe_int) (fun _ _ => rfl)) (ja_nil))) B.range) (blkOk_by (own := [("k", 1)]) (by dsimp only [cxOf, Cx.blk, compEnvC]; (try simp only [relabel_eq]); dsimp only [envOfC]; decide +kernel)) (by decide) (fun _ _ _ _ _ => pg_name (i := 1) (hx.blk _ _ _ _ _).nd rfl (by first | exact Or.inl rfl | exact Or.inr rfl)) (fun _ _ _ _ _ => jc_nil) (fun _ _ _ _ _ => je_join (hx.blk _ _ _ _ _) (je_c pe_str) (je_lc (own := [("row", 2)]) (t := (.one 2)) (hx.blk _ _ _ _ _) (ji_tup (hx.blk _ _ _ _ _) (je_var (pv 0))) (blkOk_by (own := [("row", 2)]) (by dsimp only [cxOf, Cx.blk, compEnvC]; (try simp only [relabel_eq]); dsimp only [envOfC]; decide +kernel)) (by decide) (fun _ _ _ _ _ => pg_name (i := 2) ((hx.blk _ _ _ _ _).blk _ _ _ _ _).nd rfl (by first | exact Or.inl rfl | exact Or.inr rfl)) (fun _ _ _ _ _ => jc_nil) (fun _ _ _ _ _ => je_ix ix_str o_ixS (je_var (pv 2)) (je_var (pv 1)) (fun _ _ => rfl)) s)) s) (ja_nil))))
/-! _law_is_table -/
abbrev s__law_is_table : Stmt := topS 35
theorem sc__law_is_table : FnScope ["thing", "row", "sign"] ["thing"] (defScope s__law_is_table) := ⟨rfl, rfl, rfl, by decide +kernel, rfl, by decide +kernel, by decide +kernel⟩
theorem ok__law_is_table (B : Bi mg) {f : Addr} {fd : FuncData} (D : DefOk K mg "_law_is_table" s__law_is_table ["thing"] f fd) : FnOk P w K mg base (L2.CX P w) 1 f fd ["thing"] (spF K cls T 1 F__law_is_table) :=
  fnK_go (k := 0) (n := 2) (m := m__law_is_table) D sc__law_is_table rfl fun pa H0 mu0 ow0 cdv hcdv A outer s H E hr hx tk po =>
    jb_cons (js_if ((jw_or (jt_not (jt_val (je_isi (T := .tup) hx (je_var (pv 0)) (by decide) (pe_bltn (v := .ty "tuple") (by rfl) B.tuple (by decide +kernel) rfl) (by rfl) B.isinstance))) (jw_or (jt_not (jt_chain op_le op_le o_le o_le (je_c pe_int) (je_bi call_len o_len (by rfl) B.len (by decide +kernel) (ja_cons (je_var (pv 0)) (ja_nil))) (je_c pe_int))) (jw_or1 (jt_not (jt_val (je_bi (cr_all hx.calm) o_all (by rfl) B.all (by decide +kernel) (ja_cons (je_lc (own := [("row", 1)]) (t := (.one 1)) hx (ji_tup hx (je_var (pv 0))) (blkOk_by (own := [("row", 1)]) (by dsimp only [cxOf, Cx.blk, compEnvC]; (try simp only [relabel_eq]); dsimp only [envOfC]; decide +kernel)) (by decide) (fun _ _ _ _ _ => pg_name (i := 1) (hx.blk _ _ _ _ _).nd rfl (by first | exact Or.inl rfl | exact Or.inr rfl)) (fun _ _ _ _ _ => jc_nil) (fun _ _ _ _ _ => je_isi (T := .str) (hx.blk _ _ _ _ _) (je_var (pv 1)) (by decide) (pe_bltn (v := .ty "str") (by rfl) B.str (by decide +kernel) rfl) (by rfl) B.isinstance) s) (ja_nil)))))))).jt) (jb_one (js_ret (je_c pe_bl))) (jb_nil))
    (jb_cons (js_if ((jw_or (jt_not (jt_chain op_le op_le o_le o_le (je_c pe_int) (je_bi call_len o_len (by rfl) B.len (by decide +kernel) (ja_cons (je_ix ix_tup o_ixT (je_var (pv 0)) (je_c pe_int) (fun _ _ => rfl)) (ja_nil))) (je_c pe_int))) (jw_or1 (jt_val (je_bi (cr_any hx.calm) o_any (by rfl) B.any (by decide +kernel) (ja_cons (je_lc (own := [("row", 1)]) (t := (.one 1)) hx (ji_tup hx (je_var (pv 0))) (blkOk_by (own := [("row", 1)]) (by dsimp only [cxOf, Cx.blk, compEnvC]; (try simp only [relabel_eq]); dsimp only [envOfC]; decide +kernel)) (by decide) (fun _ _ _ _ _ => pg_name (i := 1) (hx.blk _ _ _ _ _).nd rfl (by first | exact Or.inl rfl | exact Or.inr rfl)) (fun _ _ _ _ _ => jc_nil) (fun _ _ _ _ _ => je_cmp (OpR.or op_ne (op_neD hr.units)) o_ne (je_bi call_len o_len (by rfl) B.len (by decide +kernel) (ja_cons (je_var (pv 1)) (ja_nil))) (je_bi call_len o_len (by rfl) B.len (by decide +kernel) (ja_cons (je_ix ix_tup o_ixT (je_var (pv 0)) (je_c pe_int) (fun _ _ => rfl)) (ja_nil)))) s) (ja_nil)))))).jt) (jb_one (js_ret (je_c pe_bl))) (jb_nil))
    (jb_one (js_ret (je_bi (cr_all hx.calm) o_all (by rfl) B.all (by decide +kernel) (ja_cons (je_lc (own := [("row", 1)]) (t := (.one 1)) hx (ji_tup hx (je_var (pv 0))) (blkOk_by (own := [("row", 1)]) (by dsimp only [cxOf, Cx.blk, compEnvC]; (try simp only [relabel_eq]); dsimp only [envOfC]; decide +kernel)) (by decide) (fun _ _ _ _ _ => pg_name (i := 1) (hx.blk _ _ _ _ _).nd rfl (by first | exact Or.inl rfl | exact Or.inr rfl)) (fun _ _ _ _ _ => jc_nil) (fun _ _ _ _ _ => je_bi (cr_all (hx.blk _ _ _ _ _).calm) o_all (by rfl) B.all (by decide +kernel) (ja_cons (je_lc (own := [("sign", 2)]) (t := (.one 2)) (hx.blk _ _ _ _ _) (ji_str (je_var (pv 1))) (blkOk_by (own := [("sign", 2)]) (by dsimp only [cxOf, Cx.blk, compEnvC]; (try simp only [relabel_eq]); dsimp only [envOfC]; decide +kernel)) (by decide) (fun _ _ _ _ _ => pg_name (i := 2) ((hx.blk _ _ _ _ _).blk _ _ _ _ _).nd rfl (by first | exact Or.inl rfl | exact Or.inr rfl)) (fun _ _ _ _ _ => jc_nil) (fun _ _ _ _ _ => je_cmp op_in_seq (o_in false) (je_var (pv 2)) (je_tup (ja_cons (je_c pe_str) (ja_cons (je_c pe_str) (ja_nil))))) s) (ja_nil))) s) (ja_nil))))))
/-! _law_odd_tables -/
abbrev s__law_odd_tables : Stmt := topS 36
theorem sc__law_odd_tables : FnScope ["table", "row", "found"] ["table"] (defScope s__law_odd_tables) := ⟨rfl, rfl, rfl, by decide +kernel, rfl, by decide +kernel, by decide +kernel⟩
theorem ok__law_odd_tables (B : Bi mg) {f : Addr} {fd : FuncData} (D : DefOk K mg "_law_odd_tables" s__law_odd_tables ["table"] f fd) : FnOk P w K mg base (L2.CX P w) 1 f fd ["table"] (spF K cls T 1 F__law_odd_tables) :=
  fnK_go (k := 0) (n := 2) (m := m__law_odd_tables) D sc__law_odd_tables rfl fun pa H0 mu0 ow0 cdv hcdv A outer s H E hr hx tk po =>
    jb_cons (js_set (i := 1) hx (je_ix ix_tup o_ixT (je_var (pv 0)) (je_c pe_int) (fun _ _ => rfl)))
    (jb_cons (js_set (i := 2) hx (je_lst (ja_cons (je_c pe_non) (ja_cons (je_tup (ja_nil)) (ja_cons (je_lst (ja_nil)) (ja_cons (je_dct0) (ja_cons (je_c pe_int) (ja_cons (je_c pe_str) (ja_cons (je_c pe_str) (ja_nil))))))))))
    (jb_cons (js_set (i := 2) hx (je_op op_cat o_catL (je_var (pv 2)) (je_lst (ja_cons (je_ty call_list_of o_list (by rfl) B.list (by decide +kernel) (ja_cons (je_var (pv 0)) (ja_nil))) (ja_cons (je_tup (ja_cons (je_c pe_non) (ja_nil))) (ja_cons (je_tup (ja_cons (je_tup (ja_nil)) (ja_nil))) (ja_cons (je_tup (ja_cons (je_tup (ja_cons (je_c pe_str) (ja_nil))) (ja_nil))) (ja_cons (je_tup (ja_cons (je_c pe_str) (ja_nil))) (ja_cons (je_tup (ja_cons (je_var (pv 1)) (ja_cons (je_op op_add_str o_catS (je_var (pv 1)) (je_c pe_str)) (ja_nil)))) (ja_cons (je_tup (ja_cons (je_op op_add_str o_catS (je_var (pv 1)) (je_c pe_str)) (ja_cons (je_var (pv 1)) (ja_nil)))) (ja_nil)))))))))))
    (jb_cons (js_set (i := 2) hx (je_op op_cat o_catL (je_var (pv 2)) (je_lst (ja_cons (je_op op_repT o_repT (je_tup (ja_cons (je_c pe_str) (ja_nil))) (je_c pe_int)) (ja_cons (je_tup (ja_cons (je_op op_mulS o_mulS (je_c pe_str) (je_c pe_int)) (ja_nil))) (ja_cons (je_tup (ja_cons (je_var (pv 1)) (ja_cons (je_op op_add_str o_catS (je_slice sl_str o_slS (je_var (pv 1)) (jo_none) (jo_some (je_un un_neg o_neg (je_c pe_int)))) (je_c pe_str)) (ja_nil)))) (ja_cons (je_tup (ja_cons (je_op op_add_str o_catS (je_slice sl_str o_slS (je_var (pv 1)) (jo_none) (jo_some (je_un un_neg o_neg (je_c pe_int)))) (je_c pe_str)) (ja_nil))) (ja_cons (je_tup (ja_cons (je_op op_add_str o_catS (je_slice sl_str o_slS (je_var (pv 1)) (jo_none) (jo_some (je_un un_neg o_neg (je_c pe_int)))) (je_c pe_str)) (ja_nil))) (ja_cons (je_tup (ja_cons (je_var (pv 1)) (ja_cons (je_c pe_non) (ja_nil)))) (ja_nil))))))))))
    (jb_cons (js_set (i := 2) hx (je_op op_cat o_catL (je_var (pv 2)) (je_lst (ja_cons (je_tup (ja_cons (je_var (pv 1)) (ja_cons (je_ty (call_listS hr) o_listS (by rfl) B.list (by decide +kernel) (ja_cons (je_var (pv 1)) (ja_nil))) (ja_nil)))) (ja_cons (je_tup (ja_cons (je_c pe_bl) (ja_nil))) (ja_cons (je_tup (ja_cons (je_c pe_int) (ja_nil))) (ja_cons (je_tup (ja_cons (je_c pe_str) (ja_nil))) (ja_cons (je_tup (ja_cons (je_op op_add_str o_catS (je_slice sl_str o_slS (je_var (pv 1)) (jo_none) (jo_some (je_un un_neg o_neg (je_c pe_int)))) (je_c pe_str)) (ja_cons (je_var (pv 1)) (ja_nil)))) (ja_cons (je_tup (ja_cons (je_lst (ja_cons (je_var (pv 1)) (ja_nil))) (ja_nil))) (ja_nil))))))))))
    (jb_cons (js_set (i := 2) hx (je_op op_cat o_catL (je_var (pv 2)) (je_lst (ja_cons (je_tup (ja_cons (je_op op_add_str o_catS (je_slice sl_str o_slS (je_var (pv 1)) (jo_none) (jo_some (je_un un_neg o_neg (je_c pe_int)))) (je_c pe_str)) (ja_nil))) (ja_cons (je_tup (ja_cons (je_op op_add_str o_catS (je_c pe_str) (je_slice sl_str o_slS (je_var (pv 1)) (jo_some (je_c pe_int)) (jo_none))) (ja_cons (je_var (pv 1)) (ja_nil)))) (ja_cons (je_tup (ja_cons (je_c pe_str) (ja_cons (je_c pe_str) (ja_cons (je_c pe_str) (ja_nil))))) (ja_cons (je_tup (ja_cons (je_c pe_str) (ja_cons (je_c pe_str) (ja_cons (je_c pe_str) (ja_nil))))) (ja_nil))))))))
    (jb_cons (js_set (i := 2) hx (je_op op_cat o_catL (je_var (pv 2)) (je_lst (ja_cons (je_op op_repT o_repT (je_tup (ja_cons (je_op op_mulS o_mulS (je_c pe_str) (je_c pe_int)) (ja_nil))) (je_c pe_int)) (ja_cons (je_op op_repT o_repT (je_tup (ja_cons (je_op op_mulS o_mulS (je_c pe_str) (je_c pe_int)) (ja_nil))) (je_c pe_int)) (ja_cons (je_op op_repT o_repT (je_tup (ja_cons (je_op op_mulS o_mulS (je_c pe_str) (je_c pe_int)) (ja_nil))) (je_c pe_int)) (ja_nil)))))))
    (jb_one (js_ret (je_op op_cat o_catL (je_var (pv 2)) (je_lst (ja_cons (je_tup (ja_cons (je_c pe_str) (ja_cons (je_c pe_str) (ja_cons (je_c pe_str) (ja_cons (je_c pe_str) (ja_cons (je_c pe_str) (ja_nil))))))) (ja_cons (je_tup (ja_cons (je_c pe_str) (ja_cons (je_c pe_str) (ja_cons (je_c pe_str) (ja_nil))))) (ja_nil)))))))))))))
/-! _law_odd_lines -/
abbrev s__law_odd_lines : Stmt := topS 37
theorem sc__law_odd_lines : FnScope ["size", "found", "every"] ["size"] (defScope s__law_odd_lines) := ⟨rfl, rfl, rfl, by decide +kernel, rfl, by decide +kernel, by decide +kernel⟩
theorem ok__law_odd_lines (B : Bi mg) {f : Addr} {fd : FuncData} (D : DefOk K mg "_law_odd_lines" s__law_odd_lines ["size"] f fd) : FnOk P w K mg base (L2.CX P w) 1 f fd ["size"] (spF K cls T 1 F__law_odd_lines) :=
  fnK_go (k := 0) (n := 2) (m := m__law_odd_lines) D sc__law_odd_lines rfl fun pa H0 mu0 ow0 cdv hcdv A outer s H E hr hx tk po =>
    jb_cons (js_set (i := 1) hx (je_lst (ja_cons (je_c pe_non) (ja_cons (je_tup (ja_nil)) (ja_cons (je_lst (ja_cons (je_c pe_int) (ja_nil))) (ja_cons (je_tup (ja_cons (je_c pe_int) (ja_cons (je_c pe_int) (ja_nil)))) (ja_cons (je_tup (ja_cons (je_var (pv 0)) (ja_nil))) (ja_cons (je_tup (ja_cons (je_un un_neg o_neg (je_c pe_int)) (ja_nil))) (ja_cons (je_tup (ja_cons (je_c pe_bl) (ja_nil))) (ja_cons (je_tup (ja_cons (je_c pe_bl) (ja_nil))) (ja_cons (je_c pe_str) (ja_cons (je_dct0) (ja_cons (je_c pe_int) (ja_cons (je_tup (ja_cons (je_tup (ja_cons (je_c pe_int) (ja_nil))) (ja_nil))) (ja_cons (je_tup (ja_cons (je_c pe_non) (ja_nil))) (ja_cons (je_tup (ja_cons (je_c pe_str) (ja_nil))) (ja_nil)))))))))))))))))
    (jb_cons (js_set (i := 1) hx (je_op op_cat o_catL (je_var (pv 1)) (je_lst (ja_cons (je_tup (ja_cons (je_lst (ja_cons (je_c pe_int) (ja_nil))) (ja_nil))) (ja_cons (je_tup (ja_cons (je_dct0) (ja_nil))) (ja_cons (je_tup (ja_cons (je_c pe_int) (ja_cons (je_lst (ja_nil)) (ja_nil)))) (ja_cons (je_tup (ja_cons (je_lst (ja_nil)) (ja_cons (je_c pe_int) (ja_nil)))) (ja_nil))))))))
    (jb_cons (js_set (i := 2) hx (je_tupR hx (je_var (pv 0)) B.tuple B.range))
    (jb_cons (js_set (i := 1) hx (je_op op_cat o_catL (je_var (pv 1)) (je_lst (ja_cons (je_op op_catA o_catT (je_var (pv 2)) (je_tup (ja_cons (je_var (pv 0)) (ja_nil)))) (ja_cons (je_op op_catA o_catT (je_var (pv 2)) (je_slice sl_tupA o_slT (je_var (pv 2)) (jo_some (je_un un_neg o_neg (je_c pe_int))) (jo_none))) (ja_cons (je_op op_catA o_catT (je_var (pv 2)) (je_tup (ja_cons (je_un un_neg o_neg (je_c pe_int)) (ja_nil)))) (ja_cons (je_op op_catA o_catT (je_slice sl_tupA o_slT (je_var (pv 2)) (jo_none) (jo_some (je_un un_neg o_neg (je_c pe_int)))) (je_tup (ja_cons (je_c pe_non) (ja_nil)))) (ja_cons (je_ty call_list_of o_list (by rfl) B.list (by decide +kernel) (ja_cons (je_var (pv 2)) (ja_nil))) (ja_nil)))))))))
    (jb_cons (js_set (i := 1) hx (je_op op_cat o_catL (je_var (pv 1)) (je_lst (ja_cons (je_op op_catA o_catT (je_var (pv 2)) (je_tup (ja_cons (je_c pe_bl) (ja_nil)))) (ja_cons (je_tup (ja_cons (je_c pe_int) (ja_cons (je_op op_pow o_pow (je_c pe_int) (je_c pe_int)) (ja_nil)))) (ja_cons (je_if (jt_cmp op_gt o_gt (je_var (pv 0)) (je_c pe_int)) (je_op op_catA o_catT (je_slice sl_tupA o_slT (je_var (pv 2)) (jo_none) (jo_some (je_un un_neg o_neg (je_c pe_int)))) (je_tup (ja_cons (je_c pe_bl) (ja_nil)))) (je_tup (ja_cons (je_c pe_bl) (ja_nil)))) (ja_nil)))))))
    (jb_one (js_ret (je_op op_cat o_catL (je_var (pv 1)) (je_lst (ja_cons (je_op op_catA o_catT (je_var (pv 2)) (je_slice sl_tupA o_slT (je_var (pv 2)) (jo_none) (jo_some (je_c pe_int)))) (ja_cons (je_tup (ja_cons (je_c pe_int) (ja_cons (je_c pe_int) (ja_cons (je_c pe_int) (ja_nil))))) (ja_cons (je_tup (ja_cons (je_c pe_int) (ja_cons (je_c pe_int) (ja_cons (je_c pe_int) (ja_nil))))) (ja_cons (je_op op_catA o_catT (je_op op_catA o_catT (je_slice sl_tupA o_slT (je_var (pv 2)) (jo_none) (jo_some (je_c pe_int))) (je_tup (ja_cons (je_var (pv 0)) (ja_nil)))) (je_slice sl_tupA o_slT (je_var (pv 2)) (jo_some (je_c pe_int)) (jo_none))) (ja_cons (je_tup (ja_cons (je_c pe_int) (ja_cons (je_c pe_non) (ja_cons (je_c pe_int) (ja_nil))))) (ja_nil))))))))))))))
/-! _law_word -/
abbrev s__law_word : Stmt := topS 38
theorem sc__law_word : FnScope ["act", "caught", "e", "kinds", "words_here"] ["act"] (defScope s__law_word) := ⟨rfl, rfl, rfl, by decide +kernel, rfl, by decide +kernel, by decide +kernel⟩
theorem gives__law_word {X : Cx} {pa : Addr} {g : Addr} {cdg : Value} {qq : Str} (hr : Room 2 X.A) (B : Bi X.mg) (kit : KitOf X.K cls subT) (exm : ∀ c w, wd__law_word c = some w → PySem.W.exmOne X.K (.ref (cls c)) (.ref (cls 0)) = some true) (X_InvalidLines : ClsX X.K X.mg "InvalidLines" (cls 1)) (X_InvalidTable : ClsX X.K X.mg "InvalidTable" (cls 2)) (X_TickError : ClsX X.K X.mg "TickError" (cls 0)) :
    LamX.GivesTo X ["act", "caught", "e", "kinds", "words_here"] "_law_word" (defScope s__law_word) g cdg (defBody s__law_word) "act" qq (TTw ⟨X.K, pa, cls, T⟩ wd__law_word) :=
  word_gives (Ng := ["act", "caught", "e", "kinds", "words_here"]) (kr := 1) (mrest := m__law_word) (by decide +kernel) rfl rfl (fun _ => rfl) rfl rfl rfl X_TickError.g exm hr rfl (fun H0 ow0 s H hx hr =>
    jb_cons (js_if (jt_cmp op_isN o_isN (je_var (pv 1)) (je_c pe_non)) (jb_one (js_ret (je_c pe_str))) (jb_nil))
    (jb_cons (js_set (i := 3) hx (je_lst (ja_cons (je_isX hx kit (je_var (pv 1)) X_InvalidTable.g rfl B.isinstance) (ja_cons (je_isX hx kit (je_var (pv 1)) X_InvalidLines.g rfl B.isinstance) (ja_nil)))))
    (jb_cons (js_set (i := 4) hx (je_lst (ja_cons (je_c pe_str) (ja_cons (je_c pe_str) (ja_nil)))))
    (jb_one (js_ret (je_if (jt_cmp (OpR.or op_eq (op_eqD hr.units)) o_eq (je_lm PySem.F.slot_list_count PySem.F.type_list_count mt_countB o_countB (je_var (pv 3)) (je_c pe_bl)) (je_c pe_int)) (je_ix ix_list o_ixL (je_var (pv 4)) (je_lm PySem.F.slot_list_index PySem.F.type_list_index mt_index o_indexB (je_var (pv 3)) (je_c pe_bl)) (fun _ _ => rfl)) (je_c pe_str))))))) ⟨_, rfl⟩ (fun c w h => match c, h with | 0, h => by cases h; exact ⟨_, rfl⟩ | 1, h => by cases h; exact ⟨_, rfl⟩ | 2, h => by cases h; exact ⟨_, rfl⟩ | _ + 3, h => nomatch h)
/-! _law_bent -/
abbrev s__law_bent : Stmt := topS 39
theorem sc__law_bent : FnScope ["pen", "table", "row", "column", "road", "signs", "odd", "many"] ["pen", "table"] (defScope s__law_bent) := ⟨rfl, rfl, rfl, by decide +kernel, rfl, by decide +kernel, by decide +kernel⟩
theorem ok__law_bent (B : Bi mg) {f__law_draw : Addr} {fd__law_draw : FuncData} (D__law_draw : DefOk K mg "_law_draw" s__law_draw ["pen", "under"] f__law_draw fd__law_draw) (ok__law_draw : FnOk P w K mg base (L2.CX P w) 2 f__law_draw fd__law_draw ["pen", "under"] (spF K cls T 2 F__law_draw)) {f__law_with : Addr} {fd__law_with : FuncData} (D__law_with : DefOk K mg "_law_with" s__law_with ["table", "row", "column", "sign"] f__law_with fd__law_with) (ok__law_with : FnOk P w K mg base (L2.CX P w) 1 f__law_with fd__law_with ["table", "row", "column", "sign"] (spF K cls T 4 F__law_with)) {f : Addr} {fd : FuncData} (D : DefOk K mg "_law_bent" s__law_bent ["pen", "table"] f fd) : FnOk P w K mg base (L2.CX P w) 3 f fd ["pen", "table"] (spF K cls T 2 F__law_bent) :=
  fnK_go (k := 2) (n := 6) (m := m__law_bent) D sc__law_bent rfl fun pa H0 mu0 ow0 cdv hcdv A outer s H E hr hx tk po =>
    jb_cons (js_par3 (i := 2) (j := 3) (l := 4) hx (je_callK hx tk ok__law_draw (hr.mono (by decide : 2 ≤ _)) D__law_draw.g D__law_draw.k D__law_draw.b (ja_cons (je_var (pv 0)) (ja_cons (je_bi call_len o_len (by rfl) B.len (by decide +kernel) (ja_cons (je_var (pv 1)) (ja_nil))) (ja_nil)))) (je_callK hx tk ok__law_draw (hr.mono (by decide : 2 ≤ _)) D__law_draw.g D__law_draw.k D__law_draw.b (ja_cons (je_var (pv 0)) (ja_cons (je_bi call_len o_len (by rfl) B.len (by decide +kernel) (ja_cons (je_ix ix_tup o_ixT (je_var (pv 1)) (je_c pe_int) (fun _ _ => rfl)) (ja_nil))) (ja_nil)))) (je_callK hx tk ok__law_draw (hr.mono (by decide : 2 ≤ _)) D__law_draw.g D__law_draw.k D__law_draw.b (ja_cons (je_var (pv 0)) (ja_cons (je_c pe_int) (ja_nil)))) (by rfl))
    (jb_cons (js_if (jt_cmp op_lt o_lt (je_var (pv 4)) (je_c pe_int)) (jb_cons (js_set (i := 5) hx (je_op op_cat o_catL (je_ty (call_listS hr) o_listS (by rfl) B.list (by decide +kernel) (ja_cons (je_c pe_str) (ja_nil))) (je_lst (ja_cons (je_c pe_str) (ja_cons (je_c pe_str) (ja_cons (je_c pe_str) (ja_cons (je_c pe_str) (ja_cons (je_c pe_str) (ja_nil)))))))))
    (jb_one (js_ret (je_callK hx tk ok__law_with (hr.mono (by decide : 1 ≤ _)) D__law_with.g D__law_with.k D__law_with.b (ja_cons (je_var (pv 1)) (ja_cons (je_var (pv 2)) (ja_cons (je_var (pv 3)) (ja_cons (je_ix ix_list o_ixL (je_var (pv 5)) (je_callK hx tk ok__law_draw (hr.mono (by decide : 2 ≤ _)) D__law_draw.g D__law_draw.k D__law_draw.b (ja_cons (je_var (pv 0)) (ja_cons (je_bi call_len o_len (by rfl) B.len (by decide +kernel) (ja_cons (je_var (pv 5)) (ja_nil))) (ja_nil)))) (fun _ _ => rfl)) (ja_nil))))))))) (jb_nil))
    (jb_cons (js_if (jt_cmp op_lt o_lt (je_var (pv 4)) (je_c pe_int)) (jb_cons (js_set (i := 6) hx (je_ix ix_list o_ixL (je_lst (ja_cons (je_c pe_non) (ja_cons (je_tup (ja_nil)) (ja_cons (je_ty (call_listS hr) o_listS (by rfl) B.list (by decide +kernel) (ja_cons (je_ix ix_tup o_ixT (je_var (pv 1)) (je_var (pv 2)) (fun _ _ => rfl)) (ja_nil))) (ja_cons (je_c pe_int) (ja_cons (je_c pe_bl) (ja_cons (je_c pe_str) (ja_cons (je_c pe_str) (ja_cons (je_op op_add_str o_catS (je_ix ix_tup o_ixT (je_var (pv 1)) (je_var (pv 2)) (fun _ _ => rfl)) (je_c pe_str)) (ja_cons (je_slice sl_str o_slS (je_ix ix_tup o_ixT (je_var (pv 1)) (je_var (pv 2)) (fun _ _ => rfl)) (jo_some (je_c pe_int)) (jo_none)) (ja_nil))))))))))) (je_callK hx tk ok__law_draw (hr.mono (by decide : 2 ≤ _)) D__law_draw.g D__law_draw.k D__law_draw.b (ja_cons (je_var (pv 0)) (ja_cons (je_c pe_int) (ja_nil)))) (fun _ _ => rfl)))
    (jb_one (js_ret (je_op op_catA o_catT (je_op op_catA o_catT (je_slice sl_tupA o_slT (je_var (pv 1)) (jo_none) (jo_some (je_var (pv 2)))) (je_tup (ja_cons (je_var (pv 6)) (ja_nil)))) (je_slice sl_tupA o_slT (je_var (pv 1)) (jo_some (je_op op_add o_add (je_var (pv 2)) (je_c pe_int))) (jo_none)))))) (jb_nil))
    (jb_cons (js_set (i := 7) hx (je_ix ix_list o_ixL (je_lst (ja_cons (je_op op_catA o_catT (je_var (pv 1)) (je_slice sl_tupA o_slT (je_var (pv 1)) (jo_none) (jo_some (je_c pe_int)))) (ja_cons (je_slice sl_tupA o_slT (je_var (pv 1)) (jo_some (je_c pe_int)) (jo_none)) (ja_cons (je_op op_repT o_repT (je_var (pv 1)) (je_c pe_int)) (ja_cons (je_ty call_list_of o_list (by rfl) B.list (by decide +kernel) (ja_cons (je_var (pv 1)) (ja_nil))) (ja_cons (je_join hx (je_c pe_str) (je_var (pv 1))) (ja_cons (je_dct0) (ja_nil)))))))) (je_callK hx tk ok__law_draw (hr.mono (by decide : 2 ≤ _)) D__law_draw.g D__law_draw.k D__law_draw.b (ja_cons (je_var (pv 0)) (ja_cons (je_c pe_int) (ja_nil)))) (fun _ _ => rfl)))
    (jb_one (js_ret (je_var (pv 7)))))))
/-! _law_lines_right -/
abbrev s__law_lines_right : Stmt := topS 40
theorem sc__law_lines_right : FnScope ["pen", "table", "rows", "columns", "odd", "seen", "words_here"] ["pen", "table"] (defScope s__law_lines_right) := ⟨rfl, rfl, rfl, by decide +kernel, rfl, by decide +kernel, by decide +kernel⟩
theorem ok__law_lines_right (B : Bi mg) {f__law_some : Addr} {fd__law_some : FuncData} (D__law_some : DefOk K mg "_law_some" s__law_some ["pen", "pool", "most"] f__law_some fd__law_some) (ok__law_some : FnOk P w K mg base (L2.CX P w) 3 f__law_some fd__law_some ["pen", "pool", "most"] (spF K cls T 3 F__law_some)) {f_part : Addr} {fd_part : FuncData} (D_part : DefOk K mg "part" s_part ["table", "rows", "columns"] f_part fd_part) (ok_part : FnOk P w K mg base (L2.CX P w) 6 f_part fd_part ["table", "rows", "columns"] (spF K cls T 3 F_part)) {f__law_part : Addr} {fd__law_part : FuncData} (D__law_part : DefOk K mg "_law_part" s__law_part ["table", "rows", "columns"] f__law_part fd__law_part) (ok__law_part : FnOk P w K mg base (L2.CX P w) 1 f__law_part fd__law_part ["table", "rows", "columns"] (spF K cls T 3 F__law_part)) {f__law_odd_lines : Addr} {fd__law_odd_lines : FuncData} (D__law_odd_lines : DefOk K mg "_law_odd_lines" s__law_odd_lines ["size"] f__law_odd_lines fd__law_odd_lines) (ok__law_odd_lines : FnOk P w K mg base (L2.CX P w) 1 f__law_odd_lines fd__law_odd_lines ["size"] (spF K cls T 1 F__law_odd_lines)) (kit : KitOf K cls subT) {c_ P_ : Addr} {f__law_word : Addr} {fd__law_word : FuncData} (D__law_word : DefOk K mg "_law_word" s__law_word ["act"] f__law_word fd__law_word) (exm__law_word : ∀ c w, wd__law_word c = some w → PySem.W.exmOne K (.ref (cls c)) (.ref (cls 0)) = some true) (X_InvalidLines : ClsX K mg "InvalidLines" (cls 1)) (X_InvalidTable : ClsX K mg "InvalidTable" (cls 2)) (X_TickError : ClsX K mg "TickError" (cls 0)) {f : Addr} {fd : FuncData} (LD : LamD base mg T "_law_lines_right" fd c_ P_) (D : DefOk K mg "_law_lines_right" s__law_lines_right ["pen", "table"] f fd) : FnG P w K mg base (L2.CX P w) 9 f fd ["pen", "table"] (spF K cls T 2 F__law_lines_right) :=
  fnG_go (k := 8) (n := 5) (m := m__law_lines_right) D sc__law_lines_right rfl fun pa H0 mu0 ow0 cdv hcdv A outer s H E hr gd hx tk po =>
    jb_cons (js_tset (t := (.two 2 3)) (je_tup (ja_cons (je_callK hx tk ok__law_some (hr.mono (by decide : 3 ≤ _)) D__law_some.g D__law_some.k D__law_some.b (ja_cons (je_var (pv 0)) (ja_cons (je_listR hx (je_bi call_len o_len (by rfl) B.len (by decide +kernel) (ja_cons (je_var (pv 1)) (ja_nil))) B.list B.range) (ja_cons (je_c pe_int) (ja_nil))))) (ja_cons (je_callK hx tk ok__law_some (hr.mono (by decide : 3 ≤ _)) D__law_some.g D__law_some.k D__law_some.b (ja_cons (je_var (pv 0)) (ja_cons (je_listR hx (je_bi call_len o_len (by rfl) B.len (by decide +kernel) (ja_cons (je_ix ix_tup o_ixT (je_var (pv 1)) (je_c pe_int) (fun _ _ => rfl)) (ja_nil))) B.list B.range) (ja_cons (je_c pe_int) (ja_nil))))) (ja_nil)))) (pg_tup hx.calm (pgs_cons (pg_name (i := 2) hx.nd rfl (by first | exact Or.inl rfl | exact Or.inr rfl)) (pgs_cons (pg_name (i := 3) hx.nd rfl (by first | exact Or.inl rfl | exact Or.inr rfl)) pgs_nil))))
    (jb_cons (js_tset (t := (.two 2 3)) (je_tup (ja_cons (je_orT hx (je_ty call_tuple_of o_tuple (by rfl) B.tuple (by decide +kernel) (ja_cons (je_var (pv 2)) (ja_nil))) (je_one (je_tup (ja_cons (je_c pe_int) (ja_nil))))) (ja_cons (je_orT hx (je_ty call_tuple_of o_tuple (by rfl) B.tuple (by decide +kernel) (ja_cons (je_var (pv 3)) (ja_nil))) (je_one (je_tup (ja_cons (je_c pe_int) (ja_nil))))) (ja_nil)))) (pg_tup hx.calm (pgs_cons (pg_name (i := 2) hx.nd rfl (by first | exact Or.inl rfl | exact Or.inr rfl)) (pgs_cons (pg_name (i := 3) hx.nd rfl (by first | exact Or.inl rfl | exact Or.inr rfl)) pgs_nil))))
    (jb_cons (js_if (jt_cmp (OpR.or op_ne (op_neD hr.units)) o_ne (je_bi (call_reprD hr gd) o_repr (by rfl) B.repr (by decide +kernel) (ja_cons (je_callK hx tk ok_part (hr.mono (by decide : 6 ≤ _)) D_part.g D_part.k D_part.b (ja_cons (je_var (pv 1)) (ja_cons (je_var (pv 2)) (ja_cons (je_var (pv 3)) (ja_nil))))) (ja_nil))) (je_bi (call_reprD hr gd) o_repr (by rfl) B.repr (by decide +kernel) (ja_cons (je_callK hx tk ok__law_part (hr.mono (by decide : 1 ≤ _)) D__law_part.g D__law_part.k D__law_part.b (ja_cons (je_var (pv 1)) (ja_cons (je_var (pv 2)) (ja_cons (je_var (pv 3)) (ja_nil))))) (ja_nil)))) (jb_one (js_ret (je_c pe_bl))) (jb_nil))
    (jb_cons (js_for (t := (.one 4)) po hx (ji_list hx (je_callK hx tk ok__law_odd_lines (hr.mono (by decide : 1 ≤ _)) D__law_odd_lines.g D__law_odd_lines.k D__law_odd_lines.b (ja_cons (je_bi call_len o_len (by rfl) B.len (by decide +kernel) (ja_cons (je_var (pv 1)) (ja_nil))) (ja_nil)))) (pg_name (i := 4) hx.nd rfl (by first | exact Or.inl rfl | exact Or.inr rfl)) (jb_cons (js_set (i := 5) hx (je_bi (call_reprD hr gd) o_repr (by rfl) B.repr (by decide +kernel) (ja_cons (je_var (pv 4)) (ja_nil))))
    (jb_cons (js_setO (i := 6) hx (je_lst (ja_cons (je_word (k := 6) hx ⟨LD.tb, hcdv.symm.trans LD.code, LD.mem, LD.one⟩ D__law_word sc__law_word rfl (.inl rfl) (fun cdv => gives__law_word (hr.mono (by decide : 2 ≤ _)) B kit exm__law_word X_InvalidLines X_InvalidTable X_TickError) (hr.mono (by decide : 8 ≤ _)) (fun A outer s H E f c' hr hx tk => je_callK hx tk ok_part (hr.mono (by decide : 6 ≤ _)) D_part.g D_part.k D_part.b (ja_cons (je_var (pv 1)) (ja_cons (je_var (pv 4)) (ja_cons (je_c pe_non) (ja_nil))))) (shm_call (shm_cons (shm_var) (shm_cons (shm_var) (shm_cons (shm_c) (shm_nil))))) (shx_call (shm_cons (shm_var) (shm_cons (shm_var) (shm_cons (shm_c) (shm_nil)))) (shx_cons (shm_var) (shx_var) (shm_cons (shm_var) (shm_cons (shm_c) (shm_nil))) (shx_cons (shm_var) (shx_var) (shm_cons (shm_c) (shm_nil)) (shx_cons (shm_c) (shx_c) (shm_nil) (shx_nil))))) (LamX.lamS_by (by dsimp only [cxOf, envOfC]; decide +kernel))) (ja_cons (je_c pe_str) (ja_nil)))))
    (jb_cons (js_setitem (i := 6) (je_word (k := 6) hx ⟨LD.tb, hcdv.symm.trans LD.code, LD.mem, LD.one⟩ D__law_word sc__law_word rfl (.inl rfl) (fun cdv => gives__law_word (hr.mono (by decide : 2 ≤ _)) B kit exm__law_word X_InvalidLines X_InvalidTable X_TickError) (hr.mono (by decide : 8 ≤ _)) (fun A outer s H E f c' hr hx tk => je_callK hx tk ok_part (hr.mono (by decide : 6 ≤ _)) D_part.g D_part.k D_part.b (ja_cons (je_var (pv 1)) (ja_cons (je_var (pv 4)) (ja_cons (je_var (pv 3)) (ja_nil))))) (shm_call (shm_cons (shm_var) (shm_cons (shm_var) (shm_cons (shm_var) (shm_nil))))) (shx_call (shm_cons (shm_var) (shm_cons (shm_var) (shm_cons (shm_var) (shm_nil)))) (shx_cons (shm_var) (shx_var) (shm_cons (shm_var) (shm_cons (shm_var) (shm_nil))) (shx_cons (shm_var) (shx_var) (shm_cons (shm_var) (shm_nil)) (shx_cons (shm_var) (shx_var) (shm_nil) (shx_nil))))) (LamX.lamS_by (by dsimp only [cxOf, envOfC]; decide +kernel))) (je_c pe_int) (pg_sub (pv 6) (je_c pe_int).pe set_list))
    (jb_one (js_if ((jw_or (jt_cmp (OpR.or op_ne (op_neD hr.units)) o_ne (je_var (pv 6)) (je_op op_rep o_repL (je_lst (ja_cons (je_c pe_str) (ja_nil))) (je_c pe_int))) (jw_or1 (jt_cmp (OpR.or op_ne (op_neD hr.units)) o_ne (je_bi (call_reprD hr gd) o_repr (by rfl) B.repr (by decide +kernel) (ja_cons (je_var (pv 4)) (ja_nil))) (je_var (pv 5))))).jt) (jb_one (js_ret (je_c pe_bl))) (jb_nil)))))))
    (jb_cons (js_for (t := (.one 4)) po hx (ji_list hx (je_callK hx tk ok__law_odd_lines (hr.mono (by decide : 1 ≤ _)) D__law_odd_lines.g D__law_odd_lines.k D__law_odd_lines.b (ja_cons (je_bi call_len o_len (by rfl) B.len (by decide +kernel) (ja_cons (je_ix ix_tup o_ixT (je_var (pv 1)) (je_c pe_int) (fun _ _ => rfl)) (ja_nil))) (ja_nil)))) (pg_name (i := 4) hx.nd rfl (by first | exact Or.inl rfl | exact Or.inr rfl)) (jb_cons (js_set (i := 5) hx (je_bi (call_reprD hr gd) o_repr (by rfl) B.repr (by decide +kernel) (ja_cons (je_var (pv 4)) (ja_nil))))
    (jb_one (js_if ((jw_or (jt_cmp (OpR.or op_ne (op_neD hr.units)) o_ne (je_word (k := 6) hx ⟨LD.tb, hcdv.symm.trans LD.code, LD.mem, LD.one⟩ D__law_word sc__law_word rfl (.inl rfl) (fun cdv => gives__law_word (hr.mono (by decide : 2 ≤ _)) B kit exm__law_word X_InvalidLines X_InvalidTable X_TickError) (hr.mono (by decide : 8 ≤ _)) (fun A outer s H E f c' hr hx tk => je_callK hx tk ok_part (hr.mono (by decide : 6 ≤ _)) D_part.g D_part.k D_part.b (ja_cons (je_var (pv 1)) (ja_cons (je_var (pv 2)) (ja_cons (je_var (pv 4)) (ja_nil))))) (shm_call (shm_cons (shm_var) (shm_cons (shm_var) (shm_cons (shm_var) (shm_nil))))) (shx_call (shm_cons (shm_var) (shm_cons (shm_var) (shm_cons (shm_var) (shm_nil)))) (shx_cons (shm_var) (shx_var) (shm_cons (shm_var) (shm_cons (shm_var) (shm_nil))) (shx_cons (shm_var) (shx_var) (shm_cons (shm_var) (shm_nil)) (shx_cons (shm_var) (shx_var) (shm_nil) (shx_nil))))) (LamX.lamS_by (by dsimp only [cxOf, envOfC]; decide +kernel))) (je_c pe_str)) (jw_or1 (jt_cmp (OpR.or op_ne (op_neD hr.units)) o_ne (je_bi (call_reprD hr gd) o_repr (by rfl) B.repr (by decide +kernel) (ja_cons (je_var (pv 4)) (ja_nil))) (je_var (pv 5))))).jt) (jb_one (js_ret (je_c pe_bl))) (jb_nil)))))
    (jb_one (js_ret (je_c pe_bl)))))))
/-! law -/
abbrev s_law : Stmt := topS 41
theorem sc_law : FnScope ["script", "pen", "lap", "table", "row", "again", "odd", "held", "due", "found", "thing", "seen", "words_here", "column"] ["script"] (defScope s_law) := ⟨rfl, rfl, rfl, by decide +kernel, rfl, by decide +kernel, by decide +kernel⟩
theorem ok_law (B : Bi mg) {f__law_draw : Addr} {fd__law_draw : FuncData} (D__law_draw : DefOk K mg "_law_draw" s__law_draw ["pen", "under"] f__law_draw fd__law_draw) (ok__law_draw : FnOk P w K mg base (L2.CX P w) 2 f__law_draw fd__law_draw ["pen", "under"] (spF K cls T 2 F__law_draw)) {f__law_table : Addr} {fd__law_table : FuncData} (D__law_table : DefOk K mg "_law_table" s__law_table ["pen", "most"] f__law_table fd__law_table) (ok__law_table : FnOk P w K mg base (L2.CX P w) 4 f__law_table fd__law_table ["pen", "most"] (spF K cls T 2 F__law_table)) {f_ticks : Addr} {fd_ticks : FuncData} (D_ticks : DefOk K mg "ticks" s_ticks ["table"] f_ticks fd_ticks) (ok_ticks : FnOk P w K mg base (L2.CX P w) 4 f_ticks fd_ticks ["table"] (spF K cls T 1 F_ticks)) {f_is_table : Addr} {fd_is_table : FuncData} (D_is_table : DefOk K mg "is_table" s_is_table ["thing"] f_is_table fd_is_table) (ok_is_table : FnOk P w K mg base (L2.CX P w) 2 f_is_table fd_is_table ["thing"] (spF K cls T 1 F_is_table)) {f_turned : Addr} {fd_turned : FuncData} (D_turned : DefOk K mg "turned" s_turned ["table"] f_turned fd_turned) (ok_turned : FnOk P w K mg base (L2.CX P w) 4 f_turned fd_turned ["table"] (spF K cls T 1 F_turned)) {f__law_turned : Addr} {fd__law_turned : FuncData} (D__law_turned : DefOk K mg "_law_turned" s__law_turned ["table"] f__law_turned fd__law_turned) (ok__law_turned : FnOk P w K mg base (L2.CX P w) 1 f__law_turned fd__law_turned ["table"] (spF K cls T 1 F__law_turned)) {f__law_lines_right : Addr} {fd__law_lines_right : FuncData} (D__law_lines_right : DefOk K mg "_law_lines_right" s__law_lines_right ["pen", "table"] f__law_lines_right fd__law_lines_right) (ok__law_lines_right : FnG P w K mg base (L2.CX P w) 9 f__law_lines_right fd__law_lines_right ["pen", "table"] (spF K cls T 2 F__law_lines_right)) {f__law_bent : Addr} {fd__law_bent : FuncData} (D__law_bent : DefOk K mg "_law_bent" s__law_bent ["pen", "table"] f__law_bent fd__law_bent) (ok__law_bent : FnOk P w K mg base (L2.CX P w) 3 f__law_bent fd__law_bent ["pen", "table"] (spF K cls T 2 F__law_bent)) {f__law_is_table : Addr} {fd__law_is_table : FuncData} (D__law_is_table : DefOk K mg "_law_is_table" s__law_is_table ["thing"] f__law_is_table fd__law_is_table) (ok__law_is_table : FnOk P w K mg base (L2.CX P w) 1 f__law_is_table fd__law_is_table ["thing"] (spF K cls T 1 F__law_is_table)) {f__law_odd_tables : Addr} {fd__law_odd_tables : FuncData} (D__law_odd_tables : DefOk K mg "_law_odd_tables" s__law_odd_tables ["table"] f__law_odd_tables fd__law_odd_tables) (ok__law_odd_tables : FnOk P w K mg base (L2.CX P w) 1 f__law_odd_tables fd__law_odd_tables ["table"] (spF K cls T 1 F__law_odd_tables)) {f_part : Addr} {fd_part : FuncData} (D_part : DefOk K mg "part" s_part ["table", "rows", "columns"] f_part fd_part) (ok_part : FnOk P w K mg base (L2.CX P w) 6 f_part fd_part ["table", "rows", "columns"] (spF K cls T 3 F_part)) (kit : KitOf K cls subT) {c_ P_ : Addr} {f__law_word : Addr} {fd__law_word : FuncData} (D__law_word : DefOk K mg "_law_word" s__law_word ["act"] f__law_word fd__law_word) (exm__law_word : ∀ c w, wd__law_word c = some w → PySem.W.exmOne K (.ref (cls c)) (.ref (cls 0)) = some true) (X_InvalidLines : ClsX K mg "InvalidLines" (cls 1)) (X_InvalidTable : ClsX K mg "InvalidTable" (cls 2)) (X_TickError : ClsX K mg "TickError" (cls 0)) {f : Addr} {fd : FuncData} (LD : LamD base mg T "law" fd c_ P_) (D : DefOk K mg "law" s_law ["script"] f fd) {f__law_pen : Addr} {fd__law_pen : FuncData} (D__law_pen : DefOk K mg "_law_pen" s__law_pen ["script"] f__law_pen fd__law_pen) {good : List Int → Prop} (math : ∀ ns, good ns → ∃ S', m_law (stPen 14 (cutI ns none (some 60))) = .rt (.d (.bool true)) S') : FnG P w K mg base (L2.CX P w) 10 f fd ["script"] (spLaw K T good) :=
  law_ok (k := 9) (kp := 1) (m := m_law) (N := ["script", "pen", "lap", "table", "row", "again", "odd", "held", "due", "found", "thing", "seen", "words_here", "column"]) D sc_law rfl rfl rfl D__law_pen (ok__law_pen B D__law_pen) (by decide) (.inl rfl) (by first | exact .inl rfl | exact .inr rfl) rfl (by decide) (by decide) (by decide) (fun pa H0 mu0 ow0 cdv hcdv A outer s H E hr gd hx tk po =>
    jb_cons (js_for (t := (.one 2)) po hx (ji_range1 (je_c pe_int) B.range) (pg_name (i := 2) hx.nd rfl (by first | exact Or.inl rfl | exact Or.inr rfl)) (jb_cons (js_set (i := 3) hx (je_callK hx tk ok__law_table (hr.mono (by decide : 4 ≤ _)) D__law_table.g D__law_table.k D__law_table.b (ja_cons (je_var (pv 1)) (ja_cons (je_ix ix_list o_ixL (je_lst (ja_cons (je_c pe_int) (ja_cons (je_c pe_int) (ja_cons (je_c pe_int) (ja_nil))))) (je_callK hx tk ok__law_draw (hr.mono (by decide : 2 ≤ _)) D__law_draw.g D__law_draw.k D__law_draw.b (ja_cons (je_var (pv 1)) (ja_cons (je_c pe_int) (ja_nil)))) (fun _ _ => rfl)) (ja_nil)))))
    (jb_cons (js_par (oi := false) (oj := false) (i := 7) (j := 8) hx (je_bi (call_reprD hr gd) o_repr (by rfl) B.repr (by decide +kernel) (ja_cons (je_var (pv 3)) (ja_nil))) (je_lst (ja_nil)) (by rfl))
    (jb_cons (js_for (t := (.one 4)) po hx (ji_range1 (je_bi call_len o_len (by rfl) B.len (by decide +kernel) (ja_cons (je_var (pv 3)) (ja_nil))) B.range) (pg_name (i := 4) hx.nd rfl (by first | exact Or.inl rfl | exact Or.inr rfl)) (jb_one (js_set (i := 8) hx (je_op op_cat o_catL (je_var (pv 8)) (je_lc (own := [("column", 13)]) (t := (.one 13)) hx (ji_range1 (je_bi call_len o_len (by rfl) B.len (by decide +kernel) (ja_cons (je_ix ix_tup o_ixT (je_var (pv 3)) (je_c pe_int) (fun _ _ => rfl)) (ja_nil))) B.range) (blkOk_by (own := [("column", 13)]) (by dsimp only [cxOf, Cx.blk, compEnvC]; (try simp only [relabel_eq]); dsimp only [envOfC]; decide +kernel)) (by decide) (fun _ _ _ _ _ => pg_name (i := 13) (hx.blk _ _ _ _ _).nd rfl (by first | exact Or.inl rfl | exact Or.inr rfl)) (fun _ _ _ _ _ => jc_one (jt_cmp (OpR.or op_eq (op_eqD hr.units)) o_eq (je_ix ix_str o_ixS (je_ix ix_tup o_ixT (je_var (pv 3)) (je_var (pv 4)) (fun _ _ => rfl)) (je_var (pv 13)) (fun _ _ => rfl)) (je_c pe_str))) (fun _ _ _ _ _ => je_tup (ja_cons (je_var (pv 4)) (ja_cons (je_var (pv 13)) (ja_nil)))) s)))))
    (jb_cons (js_for (t := (.one 5)) po hx (ji_range1 (je_c pe_int) B.range) (pg_name (i := 5) hx.nd rfl (by first | exact Or.inl rfl | exact Or.inr rfl)) (jb_cons (js_setO (i := 9) hx (je_callK hx tk ok_ticks (hr.mono (by decide : 4 ≤ _)) D_ticks.g D_ticks.k D_ticks.b (ja_cons (je_var (pv 3)) (ja_nil))))
    (jb_cons (js_if ((jw_or (jt_cmp op_notBl o_notB (je_callK hx tk ok_is_table (hr.mono (by decide : 2 ≤ _)) D_is_table.g D_is_table.k D_is_table.b (ja_cons (je_var (pv 3)) (ja_nil))) (je_c pe_bl)) (jw_or1 (jt_cmp (OpR.or op_ne (op_neD hr.units)) o_ne (je_bi (call_reprD hr gd) o_repr (by rfl) B.repr (by decide +kernel) (ja_cons (je_var (pv 9)) (ja_nil))) (je_bi (call_reprD hr gd) o_repr (by rfl) B.repr (by decide +kernel) (ja_cons (je_var (pv 8)) (ja_nil)))))).jt) (jb_one (js_ret (je_c pe_bl))) (jb_nil))
    (jb_one (jp_append (i := 9) (pv 9) ((je_c pe_non).pe))))))
    (jb_cons (js_if ((jw_or (jt_cmp (OpR.or op_ne (op_neD hr.units)) o_ne (je_bi (call_reprD hr gd) o_repr (by rfl) B.repr (by decide +kernel) (ja_cons (je_callK hx tk ok_turned (hr.mono (by decide : 4 ≤ _)) D_turned.g D_turned.k D_turned.b (ja_cons (je_var (pv 3)) (ja_nil))) (ja_nil))) (je_bi (call_reprD hr gd) o_repr (by rfl) B.repr (by decide +kernel) (ja_cons (je_callK hx tk ok__law_turned (hr.mono (by decide : 1 ≤ _)) D__law_turned.g D__law_turned.k D__law_turned.b (ja_cons (je_var (pv 3)) (ja_nil))) (ja_nil)))) (jw_or1 (jt_cmp (OpR.or op_ne (op_neD hr.units)) o_ne (je_bi (call_reprD hr gd) o_repr (by rfl) B.repr (by decide +kernel) (ja_cons (je_callK hx tk ok_turned (hr.mono (by decide : 4 ≤ _)) D_turned.g D_turned.k D_turned.b (ja_cons (je_callK hx tk ok_turned (hr.mono (by decide : 4 ≤ _)) D_turned.g D_turned.k D_turned.b (ja_cons (je_var (pv 3)) (ja_nil))) (ja_nil))) (ja_nil))) (je_var (pv 7))))).jt) (jb_one (js_ret (je_c pe_bl))) (jb_nil))
    (jb_cons (js_if ((jw_or (jt_not (jt_val (je_call hx gd tk ok__law_lines_right (hr.mono (by decide : 9 ≤ _)) D__law_lines_right.g D__law_lines_right.k D__law_lines_right.b (ja_cons (je_var (pv 1)) (ja_cons (je_var (pv 3)) (ja_nil)))))) (jw_or1 (jt_cmp (OpR.or op_ne (op_neD hr.units)) o_ne (je_bi (call_reprD hr gd) o_repr (by rfl) B.repr (by decide +kernel) (ja_cons (je_var (pv 3)) (ja_nil))) (je_var (pv 7))))).jt) (jb_one (js_ret (je_c pe_bl))) (jb_nil))
    (jb_cons (js_for (t := (.one 5)) po hx (ji_range1 (je_c pe_int) B.range) (pg_name (i := 5) hx.nd rfl (by first | exact Or.inl rfl | exact Or.inr rfl)) (jb_cons (js_set (i := 10) hx (je_callK hx tk ok__law_bent (hr.mono (by decide : 3 ≤ _)) D__law_bent.g D__law_bent.k D__law_bent.b (ja_cons (je_var (pv 1)) (ja_cons (je_var (pv 3)) (ja_nil)))))
    (jb_cons (js_set (i := 11) hx (je_bi (call_reprD hr gd) o_repr (by rfl) B.repr (by decide +kernel) (ja_cons (je_var (pv 10)) (ja_nil))))
    (jb_one (js_if ((jw_or (jt_cmp (OpR.or op_ne (op_neD hr.units)) o_ne (je_bi (call_reprD hr gd) o_repr (by rfl) B.repr (by decide +kernel) (ja_cons (je_callK hx tk ok_is_table (hr.mono (by decide : 2 ≤ _)) D_is_table.g D_is_table.k D_is_table.b (ja_cons (je_var (pv 10)) (ja_nil))) (ja_nil))) (je_bi (call_reprD hr gd) o_repr (by rfl) B.repr (by decide +kernel) (ja_cons (je_callK hx tk ok__law_is_table (hr.mono (by decide : 1 ≤ _)) D__law_is_table.g D__law_is_table.k D__law_is_table.b (ja_cons (je_var (pv 10)) (ja_nil))) (ja_nil)))) (jw_or1 (jt_cmp (OpR.or op_ne (op_neD hr.units)) o_ne (je_bi (call_reprD hr gd) o_repr (by rfl) B.repr (by decide +kernel) (ja_cons (je_var (pv 10)) (ja_nil))) (je_var (pv 11))))).jt) (jb_one (js_ret (je_c pe_bl))) (jb_nil))))))
    (jb_one (js_for (t := (.one 6)) po hx (ji_list hx (je_callK hx tk ok__law_odd_tables (hr.mono (by decide : 1 ≤ _)) D__law_odd_tables.g D__law_odd_tables.k D__law_odd_tables.b (ja_cons (je_var (pv 3)) (ja_nil)))) (pg_name (i := 6) hx.nd rfl (by first | exact Or.inl rfl | exact Or.inr rfl)) (jb_cons (js_par (oi := true) (oj := false) (i := 12) (j := 11) hx (je_lst (ja_cons (je_word (k := 4) hx ⟨LD.tb, hcdv.symm.trans LD.code, LD.mem, LD.one⟩ D__law_word sc__law_word rfl (.inl rfl) (fun cdv => gives__law_word (hr.mono (by decide : 2 ≤ _)) B kit exm__law_word X_InvalidLines X_InvalidTable X_TickError) (hr.mono (by decide : 6 ≤ _)) (fun A outer s H E f c' hr hx tk => je_callK hx tk ok_turned (hr.mono (by decide : 4 ≤ _)) D_turned.g D_turned.k D_turned.b (ja_cons (je_var (pv 6)) (ja_nil))) (shm_call (shm_cons (shm_var) (shm_nil))) (shx_call (shm_cons (shm_var) (shm_nil)) (shx_cons (shm_var) (shx_var) (shm_nil) (shx_nil))) (LamX.lamS_by (by dsimp only [cxOf, envOfC]; decide +kernel))) (ja_cons (je_c pe_str) (ja_nil)))) (je_bi (call_reprD hr gd) o_repr (by rfl) B.repr (by decide +kernel) (ja_cons (je_var (pv 6)) (ja_nil))) (by rfl))
    (jb_cons (js_setitem (i := 12) (je_word (k := 4) hx ⟨LD.tb, hcdv.symm.trans LD.code, LD.mem, LD.one⟩ D__law_word sc__law_word rfl (.inl rfl) (fun cdv => gives__law_word (hr.mono (by decide : 2 ≤ _)) B kit exm__law_word X_InvalidLines X_InvalidTable X_TickError) (hr.mono (by decide : 6 ≤ _)) (fun A outer s H E f c' hr hx tk => je_callK hx tk ok_ticks (hr.mono (by decide : 4 ≤ _)) D_ticks.g D_ticks.k D_ticks.b (ja_cons (je_var (pv 6)) (ja_nil))) (shm_call (shm_cons (shm_var) (shm_nil))) (shx_call (shm_cons (shm_var) (shm_nil)) (shx_cons (shm_var) (shx_var) (shm_nil) (shx_nil))) (LamX.lamS_by (by dsimp only [cxOf, envOfC]; decide +kernel))) (je_c pe_int) (pg_sub (pv 12) (je_c pe_int).pe set_list))
    (jb_cons (jp_append (i := 12) (pv 12) ((je_word (k := 6) hx ⟨LD.tb, hcdv.symm.trans LD.code, LD.mem, LD.one⟩ D__law_word sc__law_word rfl (.inl rfl) (fun cdv => gives__law_word (hr.mono (by decide : 2 ≤ _)) B kit exm__law_word X_InvalidLines X_InvalidTable X_TickError) (hr.mono (by decide : 8 ≤ _)) (fun A outer s H E f c' hr hx tk => je_callK hx tk ok_part (hr.mono (by decide : 6 ≤ _)) D_part.g D_part.k D_part.b (ja_cons (je_var (pv 6)) (ja_cons (je_c pe_non) (ja_cons (je_c pe_non) (ja_nil))))) (shm_call (shm_cons (shm_var) (shm_cons (shm_c) (shm_cons (shm_c) (shm_nil))))) (shx_call (shm_cons (shm_var) (shm_cons (shm_c) (shm_cons (shm_c) (shm_nil)))) (shx_cons (shm_var) (shx_var) (shm_cons (shm_c) (shm_cons (shm_c) (shm_nil))) (shx_cons (shm_c) (shx_c) (shm_cons (shm_c) (shm_nil)) (shx_cons (shm_c) (shx_c) (shm_nil) (shx_nil))))) (LamX.lamS_by (by dsimp only [cxOf, envOfC]; decide +kernel))).pe))
    (jb_one (js_if ((jw_or (jt_cmp op_notBl o_notB (je_callK hx tk ok_is_table (hr.mono (by decide : 2 ≤ _)) D_is_table.g D_is_table.k D_is_table.b (ja_cons (je_var (pv 6)) (ja_nil))) (je_c pe_bl)) (jw_or (jt_cmp (OpR.or op_ne (op_neD hr.units)) o_ne (je_var (pv 12)) (je_op op_rep o_repL (je_lst (ja_cons (je_c pe_str) (ja_nil))) (je_c pe_int))) (jw_or1 (jt_cmp (OpR.or op_ne (op_neD hr.units)) o_ne (je_bi (call_reprD hr gd) o_repr (by rfl) B.repr (by decide +kernel) (ja_cons (je_var (pv 6)) (ja_nil))) (je_var (pv 11)))))).jt) (jb_one (js_ret (je_c pe_bl))) (jb_nil))))))))))))))))
    (jb_one (js_ret (je_and (je_cmp op_isBl o_isB (je_callK hx tk ok_is_table (hr.mono (by decide : 2 ≤ _)) D_is_table.g D_is_table.k D_is_table.b (ja_cons (je_op op_repT o_repT (je_tup (ja_cons (je_c pe_str) (ja_nil))) (je_c pe_int)) (ja_nil))) (je_c pe_bl)) (je_and (je_cmp op_isBl o_isB (je_callK hx tk ok_is_table (hr.mono (by decide : 2 ≤ _)) D_is_table.g D_is_table.k D_is_table.b (ja_cons (je_tup (ja_cons (je_op op_mulS o_mulS (je_c pe_str) (je_c pe_int)) (ja_nil))) (ja_nil))) (je_c pe_bl)) (je_one (je_cmp (OpR.or op_eq (op_eqD hr.units)) o_eq (je_callK hx tk ok_ticks (hr.mono (by decide : 4 ≤ _)) D_ticks.g D_ticks.k D_ticks.b (ja_cons (je_tup (ja_cons (je_c pe_str) (ja_nil))) (ja_nil))) (je_lst (ja_nil))))))))) math
end
end K01

set_option Elab.async false
set_option linter.all false
set_option maxRecDepth 100000
set_option maxHeartbeats 4000000
namespace K01
open PySem PySem.Spec PyProof.Rows L2 Vf
def clsN : List Str := ["TickError", "InvalidLines", "InvalidTable"]
def fnL : List He.DefD := [dfn "is_integer" s_is_integer, dfn "is_integer_to" s_is_integer_to, dfn "is_index" s_is_index, dfn "are_indexes" s_are_indexes, dfn "are_lines" s_are_lines, dfn "is_row" s_is_row, dfn "is_table" s_is_table, dfn "check_table" s_check_table, dfn "signs_at" s_signs_at, dfn "places_of" s_places_of, dfn "turned" s_turned, dfn "part" s_part, dfn "ticks" s_ticks, dfn "_law_pen" s__law_pen, dfn "_law_next" s__law_next, dfn "_law_draw" s__law_draw, dfn "_law_shuffled" s__law_shuffled, dfn "_law_part" s__law_part, dfn "_law_with" s__law_with, dfn "_law_ringed" s__law_ringed, dfn "_law_steps" s__law_steps, dfn "_law_balls" s__law_balls, dfn "_law_table" s__law_table, dfn "_law_some" s__law_some, dfn "_law_turned" s__law_turned, dfn "_law_is_table" s__law_is_table, dfn "_law_odd_tables" s__law_odd_tables, dfn "_law_odd_lines" s__law_odd_lines, dfn "_law_word" s__law_word, dfn "_law_bent" s__law_bent, dfn "_law_lines_right" s__law_lines_right, dfn "law" s_law]
def faL : List He.Fa := [.glo "is_integer",
  .glo "is_integer_to",
  .glo "is_index",
  .glo "are_indexes",
  .glo "are_lines",
  .glo "is_row",
  .glo "is_table",
  .glo "check_table",
  .glo "signs_at",
  .glo "places_of",
  .glo "turned",
  .glo "part",
  .glo "ticks",
  .glo "_law_pen",
  .glo "_law_next",
  .glo "_law_draw",
  .glo "_law_shuffled",
  .glo "_law_part",
  .glo "_law_with",
  .glo "_law_ringed",
  .glo "_law_steps",
  .glo "_law_balls",
  .glo "_law_table",
  .glo "_law_some",
  .glo "_law_turned",
  .glo "_law_is_table",
  .glo "_law_odd_tables",
  .glo "_law_odd_lines",
  .glo "_law_word",
  .glo "_law_bent",
  .glo "_law_lines_right",
  .glo "law",
  .free "all",
  .free "any",
  .free "bool",
  .free "int",
  .free "isinstance",
  .free "len",
  .free "list",
  .free "min",
  .free "range",
  .free "repr",
  .free "set",
  .free "str",
  .free "tuple",
  .free "zip",
  .str "BLANK" ".",
  .int "MOST" 8,
  .str "TICK" "x",
  .glo "TickError",
  .exc "TickError",
  .exm "TickError" "TickError" true,
  .glo "InvalidLines",
  .exc "InvalidLines",
  .exm "InvalidLines" "TickError" true,
  .glo "InvalidTable",
  .exc "InvalidTable",
  .exm "InvalidTable" "TickError" true]
def tfL : List He.Defn := [("_law_lines_right", none), ("law", none)]
def exL (K : PySem.W.Frag) : Bool := kitB clsN K && aptB tfL K
section
variable {P : Program} {w : World} {K : PySem.W.Frag} {h : Heap} {mg : Str → Option Value}
theorem head_law (X : K.In h) (G : h.Ns mainGlobals mg) (c : He.SaysX faL fnL [] tfL exL w h K) {good : List Int → Prop} (math : ∀ ns, good ns → ∃ S', m_law (stPen 14 (cutI ns none (some 60))) = .rt (.d (.bool true)) S') :
    ∃ fd : FuncData, (∀ (s : Shared) (u : Value), BindsTo s fd ⟨[u], []⟩ [("script", u)]) ∧ ∀ base : Heap, K.In base → base.Ns mainGlobals mg → (∀ p ∈ tfL.map (He.cT K), LamX.TabB base mg p.1 p.2) → FnG P w K mg base (L2.CX P w) 10 (He.ga K "law") fd ["script"] (spLaw K (tabT tfL K) good) := by
  have cd := c.t.d
  obtain ⟨ex1, ex2⟩ := He.ba (show (kitB clsN K && aptB tfL K) = true from c.more)
  have B : Bi mg := ⟨He.free_ok X G (cd.fact 32 (f := .free "all") rfl), He.free_ok X G (cd.fact 33 (f := .free "any") rfl), He.free_ok X G (cd.fact 34 (f := .free "bool") rfl), He.free_ok X G (cd.fact 35 (f := .free "int") rfl), He.free_ok X G (cd.fact 36 (f := .free "isinstance") rfl), He.free_ok X G (cd.fact 37 (f := .free "len") rfl), He.free_ok X G (cd.fact 38 (f := .free "list") rfl), He.free_ok X G (cd.fact 39 (f := .free "min") rfl), He.free_ok X G (cd.fact 40 (f := .free "range") rfl), He.free_ok X G (cd.fact 41 (f := .free "repr") rfl), He.free_ok X G (cd.fact 42 (f := .free "set") rfl), He.free_ok X G (cd.fact 43 (f := .free "str") rfl), He.free_ok X G (cd.fact 44 (f := .free "tuple") rfl), He.free_ok X G (cd.fact 45 (f := .free "zip") rfl)⟩
  have Cs : Cst mg := ⟨He.str_ok X G (cd.fact 46 (f := .str "BLANK" ".") rfl), He.int_ok X G (cd.fact 47 (f := .int "MOST" 8) rfl), He.str_ok X G (cd.fact 48 (f := .str "TICK" "x") rfl)⟩
  have X_TickError : ClsX K mg "TickError" (clsOf K clsN 0) := by
    obtain ⟨e1, e2, e3, e4⟩ := He.exc_ok (cd.fact 50 (f := .exc "TickError") rfl)
    exact ⟨e1, He.glo_ok X G (cd.fact 49 (f := .glo "TickError") rfl), e2, e3, e4⟩
  have X_InvalidLines : ClsX K mg "InvalidLines" (clsOf K clsN 1) := by
    obtain ⟨e1, e2, e3, e4⟩ := He.exc_ok (cd.fact 53 (f := .exc "InvalidLines") rfl)
    exact ⟨e1, He.glo_ok X G (cd.fact 52 (f := .glo "InvalidLines") rfl), e2, e3, e4⟩
  have X_InvalidTable : ClsX K mg "InvalidTable" (clsOf K clsN 2) := by
    obtain ⟨e1, e2, e3, e4⟩ := He.exc_ok (cd.fact 56 (f := .exc "InvalidTable") rfl)
    exact ⟨e1, He.glo_ok X G (cd.fact 55 (f := .glo "InvalidTable") rfl), e2, e3, e4⟩
  have kit : KitOf K (clsOf K clsN) subT := kit_ok ex1
  have exm__law_word : ∀ c w, wd__law_word c = some w → PySem.W.exmOne K (.ref (clsOf K clsN c)) (.ref (clsOf K clsN 0)) = some true := fun c w h => match c, h with | 0, _ => He.exm_ok (cd.fact 51 (f := .exm "TickError" "TickError" true) rfl) | 1, _ => He.exm_ok (cd.fact 54 (f := .exm "InvalidLines" "TickError" true) rfl) | 2, _ => He.exm_ok (cd.fact 57 (f := .exm "InvalidTable" "TickError" true) rfl) | _ + 3, h => nomatch h
  obtain ⟨fd_is_integer, D_is_integer, b_is_integer, cc_is_integer, k_is_integer, kc_is_integer⟩ := defOk X G cd (x := "is_integer") (st := s_is_integer) (ps := ["thing"]) (List.mem_of_getElem? (i := 0) rfl) (List.mem_of_getElem? (i := 0) rfl) (fun _ _ _ _ _ _ us hl => match us, hl with | [_], _ => rfl)
  obtain ⟨fd_is_integer_to, D_is_integer_to, b_is_integer_to, cc_is_integer_to, k_is_integer_to, kc_is_integer_to⟩ := defOk X G cd (x := "is_integer_to") (st := s_is_integer_to) (ps := ["thing", "most"]) (List.mem_of_getElem? (i := 1) rfl) (List.mem_of_getElem? (i := 1) rfl) (fun _ _ _ _ _ _ us hl => match us, hl with | [_, _], _ => rfl)
  obtain ⟨fd_is_index, D_is_index, b_is_index, cc_is_index, k_is_index, kc_is_index⟩ := defOk X G cd (x := "is_index") (st := s_is_index) (ps := ["thing", "count"]) (List.mem_of_getElem? (i := 2) rfl) (List.mem_of_getElem? (i := 2) rfl) (fun _ _ _ _ _ _ us hl => match us, hl with | [_, _], _ => rfl)
  obtain ⟨fd_are_indexes, D_are_indexes, b_are_indexes, cc_are_indexes, k_are_indexes, kc_are_indexes⟩ := defOk X G cd (x := "are_indexes") (st := s_are_indexes) (ps := ["thing", "count"]) (List.mem_of_getElem? (i := 3) rfl) (List.mem_of_getElem? (i := 3) rfl) (fun _ _ _ _ _ _ us hl => match us, hl with | [_, _], _ => rfl)
  obtain ⟨fd_are_lines, D_are_lines, b_are_lines, cc_are_lines, k_are_lines, kc_are_lines⟩ := defOk X G cd (x := "are_lines") (st := s_are_lines) (ps := ["thing", "count"]) (List.mem_of_getElem? (i := 4) rfl) (List.mem_of_getElem? (i := 4) rfl) (fun _ _ _ _ _ _ us hl => match us, hl with | [_, _], _ => rfl)
  obtain ⟨fd_is_row, D_is_row, b_is_row, cc_is_row, k_is_row, kc_is_row⟩ := defOk X G cd (x := "is_row") (st := s_is_row) (ps := ["thing"]) (List.mem_of_getElem? (i := 5) rfl) (List.mem_of_getElem? (i := 5) rfl) (fun _ _ _ _ _ _ us hl => match us, hl with | [_], _ => rfl)
  obtain ⟨fd_is_table, D_is_table, b_is_table, cc_is_table, k_is_table, kc_is_table⟩ := defOk X G cd (x := "is_table") (st := s_is_table) (ps := ["thing"]) (List.mem_of_getElem? (i := 6) rfl) (List.mem_of_getElem? (i := 6) rfl) (fun _ _ _ _ _ _ us hl => match us, hl with | [_], _ => rfl)
  obtain ⟨fd_check_table, D_check_table, b_check_table, cc_check_table, k_check_table, kc_check_table⟩ := defOk X G cd (x := "check_table") (st := s_check_table) (ps := ["thing"]) (List.mem_of_getElem? (i := 7) rfl) (List.mem_of_getElem? (i := 7) rfl) (fun _ _ _ _ _ _ us hl => match us, hl with | [_], _ => rfl)
  obtain ⟨fd_signs_at, D_signs_at, b_signs_at, cc_signs_at, k_signs_at, kc_signs_at⟩ := defOk X G cd (x := "signs_at") (st := s_signs_at) (ps := ["row", "places"]) (List.mem_of_getElem? (i := 8) rfl) (List.mem_of_getElem? (i := 8) rfl) (fun _ _ _ _ _ _ us hl => match us, hl with | [_, _], _ => rfl)
  obtain ⟨fd_places_of, D_places_of, b_places_of, cc_places_of, k_places_of, kc_places_of⟩ := defOk X G cd (x := "places_of") (st := s_places_of) (ps := ["table", "sign"]) (List.mem_of_getElem? (i := 9) rfl) (List.mem_of_getElem? (i := 9) rfl) (fun _ _ _ _ _ _ us hl => match us, hl with | [_, _], _ => rfl)
  obtain ⟨fd_turned, D_turned, b_turned, cc_turned, k_turned, kc_turned⟩ := defOk X G cd (x := "turned") (st := s_turned) (ps := ["table"]) (List.mem_of_getElem? (i := 10) rfl) (List.mem_of_getElem? (i := 10) rfl) (fun _ _ _ _ _ _ us hl => match us, hl with | [_], _ => rfl)
  obtain ⟨fd_part, D_part, b_part, cc_part, k_part, kc_part⟩ := defOk X G cd (x := "part") (st := s_part) (ps := ["table", "rows", "columns"]) (List.mem_of_getElem? (i := 11) rfl) (List.mem_of_getElem? (i := 11) rfl) (fun _ _ _ _ _ _ us hl => match us, hl with | [_, _, _], _ => rfl)
  obtain ⟨fd_ticks, D_ticks, b_ticks, cc_ticks, k_ticks, kc_ticks⟩ := defOk X G cd (x := "ticks") (st := s_ticks) (ps := ["table"]) (List.mem_of_getElem? (i := 12) rfl) (List.mem_of_getElem? (i := 12) rfl) (fun _ _ _ _ _ _ us hl => match us, hl with | [_], _ => rfl)
  obtain ⟨fd__law_pen, D__law_pen, b__law_pen, cc__law_pen, k__law_pen, kc__law_pen⟩ := defOk X G cd (x := "_law_pen") (st := s__law_pen) (ps := ["script"]) (List.mem_of_getElem? (i := 13) rfl) (List.mem_of_getElem? (i := 13) rfl) (fun _ _ _ _ _ _ us hl => match us, hl with | [_], _ => rfl)
  obtain ⟨fd__law_next, D__law_next, b__law_next, cc__law_next, k__law_next, kc__law_next⟩ := defOk X G cd (x := "_law_next") (st := s__law_next) (ps := ["pen"]) (List.mem_of_getElem? (i := 14) rfl) (List.mem_of_getElem? (i := 14) rfl) (fun _ _ _ _ _ _ us hl => match us, hl with | [_], _ => rfl)
  obtain ⟨fd__law_draw, D__law_draw, b__law_draw, cc__law_draw, k__law_draw, kc__law_draw⟩ := defOk X G cd (x := "_law_draw") (st := s__law_draw) (ps := ["pen", "under"]) (List.mem_of_getElem? (i := 15) rfl) (List.mem_of_getElem? (i := 15) rfl) (fun _ _ _ _ _ _ us hl => match us, hl with | [_, _], _ => rfl)
  obtain ⟨fd__law_shuffled, D__law_shuffled, b__law_shuffled, cc__law_shuffled, k__law_shuffled, kc__law_shuffled⟩ := defOk X G cd (x := "_law_shuffled") (st := s__law_shuffled) (ps := ["pen", "items"]) (List.mem_of_getElem? (i := 16) rfl) (List.mem_of_getElem? (i := 16) rfl) (fun _ _ _ _ _ _ us hl => match us, hl with | [_, _], _ => rfl)
  obtain ⟨fd__law_part, D__law_part, b__law_part, cc__law_part, k__law_part, kc__law_part⟩ := defOk X G cd (x := "_law_part") (st := s__law_part) (ps := ["table", "rows", "columns"]) (List.mem_of_getElem? (i := 17) rfl) (List.mem_of_getElem? (i := 17) rfl) (fun _ _ _ _ _ _ us hl => match us, hl with | [_, _, _], _ => rfl)
  obtain ⟨fd__law_with, D__law_with, b__law_with, cc__law_with, k__law_with, kc__law_with⟩ := defOk X G cd (x := "_law_with") (st := s__law_with) (ps := ["table", "row", "column", "sign"]) (List.mem_of_getElem? (i := 18) rfl) (List.mem_of_getElem? (i := 18) rfl) (fun _ _ _ _ _ _ us hl => match us, hl with | [_, _, _, _], _ => rfl)
  obtain ⟨fd__law_ringed, D__law_ringed, b__law_ringed, cc__law_ringed, k__law_ringed, kc__law_ringed⟩ := defOk X G cd (x := "_law_ringed") (st := s__law_ringed) (ps := ["size"]) (List.mem_of_getElem? (i := 19) rfl) (List.mem_of_getElem? (i := 19) rfl) (fun _ _ _ _ _ _ us hl => match us, hl with | [_], _ => rfl)
  obtain ⟨fd__law_steps, D__law_steps, b__law_steps, cc__law_steps, k__law_steps, kc__law_steps⟩ := defOk X G cd (x := "_law_steps") (st := s__law_steps) (ps := ["tree", "node", "other"]) (List.mem_of_getElem? (i := 20) rfl) (List.mem_of_getElem? (i := 20) rfl) (fun _ _ _ _ _ _ us hl => match us, hl with | [_, _, _], _ => rfl)
  obtain ⟨fd__law_balls, D__law_balls, b__law_balls, cc__law_balls, k__law_balls, kc__law_balls⟩ := defOk X G cd (x := "_law_balls") (st := s__law_balls) (ps := ["tree", "balls"]) (List.mem_of_getElem? (i := 21) rfl) (List.mem_of_getElem? (i := 21) rfl) (fun _ _ _ _ _ _ us hl => match us, hl with | [_, _], _ => rfl)
  obtain ⟨fd__law_table, D__law_table, b__law_table, cc__law_table, k__law_table, kc__law_table⟩ := defOk X G cd (x := "_law_table") (st := s__law_table) (ps := ["pen", "most"]) (List.mem_of_getElem? (i := 22) rfl) (List.mem_of_getElem? (i := 22) rfl) (fun _ _ _ _ _ _ us hl => match us, hl with | [_, _], _ => rfl)
  obtain ⟨fd__law_some, D__law_some, b__law_some, cc__law_some, k__law_some, kc__law_some⟩ := defOk X G cd (x := "_law_some") (st := s__law_some) (ps := ["pen", "pool", "most"]) (List.mem_of_getElem? (i := 23) rfl) (List.mem_of_getElem? (i := 23) rfl) (fun _ _ _ _ _ _ us hl => match us, hl with | [_, _, _], _ => rfl)
  obtain ⟨fd__law_turned, D__law_turned, b__law_turned, cc__law_turned, k__law_turned, kc__law_turned⟩ := defOk X G cd (x := "_law_turned") (st := s__law_turned) (ps := ["table"]) (List.mem_of_getElem? (i := 24) rfl) (List.mem_of_getElem? (i := 24) rfl) (fun _ _ _ _ _ _ us hl => match us, hl with | [_], _ => rfl)
  obtain ⟨fd__law_is_table, D__law_is_table, b__law_is_table, cc__law_is_table, k__law_is_table, kc__law_is_table⟩ := defOk X G cd (x := "_law_is_table") (st := s__law_is_table) (ps := ["thing"]) (List.mem_of_getElem? (i := 25) rfl) (List.mem_of_getElem? (i := 25) rfl) (fun _ _ _ _ _ _ us hl => match us, hl with | [_], _ => rfl)
  obtain ⟨fd__law_odd_tables, D__law_odd_tables, b__law_odd_tables, cc__law_odd_tables, k__law_odd_tables, kc__law_odd_tables⟩ := defOk X G cd (x := "_law_odd_tables") (st := s__law_odd_tables) (ps := ["table"]) (List.mem_of_getElem? (i := 26) rfl) (List.mem_of_getElem? (i := 26) rfl) (fun _ _ _ _ _ _ us hl => match us, hl with | [_], _ => rfl)
  obtain ⟨fd__law_odd_lines, D__law_odd_lines, b__law_odd_lines, cc__law_odd_lines, k__law_odd_lines, kc__law_odd_lines⟩ := defOk X G cd (x := "_law_odd_lines") (st := s__law_odd_lines) (ps := ["size"]) (List.mem_of_getElem? (i := 27) rfl) (List.mem_of_getElem? (i := 27) rfl) (fun _ _ _ _ _ _ us hl => match us, hl with | [_], _ => rfl)
  obtain ⟨fd__law_word, D__law_word, b__law_word, cc__law_word, k__law_word, kc__law_word⟩ := defOk X G cd (x := "_law_word") (st := s__law_word) (ps := ["act"]) (List.mem_of_getElem? (i := 28) rfl) (List.mem_of_getElem? (i := 28) rfl) (fun _ _ _ _ _ _ us hl => match us, hl with | [_], _ => rfl)
  obtain ⟨fd__law_bent, D__law_bent, b__law_bent, cc__law_bent, k__law_bent, kc__law_bent⟩ := defOk X G cd (x := "_law_bent") (st := s__law_bent) (ps := ["pen", "table"]) (List.mem_of_getElem? (i := 29) rfl) (List.mem_of_getElem? (i := 29) rfl) (fun _ _ _ _ _ _ us hl => match us, hl with | [_, _], _ => rfl)
  obtain ⟨fd__law_lines_right, D__law_lines_right, b__law_lines_right, cc__law_lines_right, k__law_lines_right, kc__law_lines_right⟩ := defOk X G cd (x := "_law_lines_right") (st := s__law_lines_right) (ps := ["pen", "table"]) (List.mem_of_getElem? (i := 30) rfl) (List.mem_of_getElem? (i := 30) rfl) (fun _ _ _ _ _ _ us hl => match us, hl with | [_, _], _ => rfl)
  obtain ⟨fd_law, D_law, b_law, cc_law, k_law, kc_law⟩ := defOk X G cd (x := "law") (st := s_law) (ps := ["script"]) (List.mem_of_getElem? (i := 31) rfl) (List.mem_of_getElem? (i := 31) rfl) (fun _ _ _ _ _ _ us hl => match us, hl with | [_], _ => rfl)
  refine ⟨fd_law, fun s u => b_law s [u] rfl, fun base hK hG hT => ?_⟩
  have ok_is_integer := ok_is_integer (P := P) (w := w) (K := K) (mg := mg) (base := base) (cls := clsOf K clsN) (T := tabT tfL K) B D_is_integer
  have ok_is_integer_to := ok_is_integer_to (P := P) (w := w) (K := K) (mg := mg) (base := base) (cls := clsOf K clsN) (T := tabT tfL K) D_is_integer ok_is_integer D_is_integer_to
  have ok_is_index := ok_is_index (P := P) (w := w) (K := K) (mg := mg) (base := base) (cls := clsOf K clsN) (T := tabT tfL K) D_is_integer_to ok_is_integer_to D_is_index
  have ok_are_indexes := ok_are_indexes (P := P) (w := w) (K := K) (mg := mg) (base := base) (cls := clsOf K clsN) (T := tabT tfL K) B D_is_index ok_is_index D_are_indexes
  have ok_are_lines := ok_are_lines (P := P) (w := w) (K := K) (mg := mg) (base := base) (cls := clsOf K clsN) (T := tabT tfL K) B D_are_indexes ok_are_indexes D_are_lines
  have ok_is_row := ok_is_row (P := P) (w := w) (K := K) (mg := mg) (base := base) (cls := clsOf K clsN) (T := tabT tfL K) B Cs D_is_row
  have ok_is_table := ok_is_table (P := P) (w := w) (K := K) (mg := mg) (base := base) (cls := clsOf K clsN) (T := tabT tfL K) B Cs D_is_row ok_is_row D_is_table
  have ok_check_table := ok_check_table (P := P) (w := w) (K := K) (mg := mg) (base := base) (cls := clsOf K clsN) (T := tabT tfL K) X_InvalidTable D_is_table ok_is_table D_check_table
  have ok_signs_at := ok_signs_at (P := P) (w := w) (K := K) (mg := mg) (base := base) (cls := clsOf K clsN) (T := tabT tfL K) D_signs_at
  have ok_places_of := ok_places_of (P := P) (w := w) (K := K) (mg := mg) (base := base) (cls := clsOf K clsN) (T := tabT tfL K) B D_places_of
  have ok_turned := ok_turned (P := P) (w := w) (K := K) (mg := mg) (base := base) (cls := clsOf K clsN) (T := tabT tfL K) B D_check_table ok_check_table D_turned
  have ok_part := ok_part (P := P) (w := w) (K := K) (mg := mg) (base := base) (cls := clsOf K clsN) (T := tabT tfL K) B X_InvalidLines D_check_table ok_check_table D_are_lines ok_are_lines D_signs_at ok_signs_at D_part
  have ok_ticks := ok_ticks (P := P) (w := w) (K := K) (mg := mg) (base := base) (cls := clsOf K clsN) (T := tabT tfL K) Cs D_check_table ok_check_table D_places_of ok_places_of D_ticks
  have ok__law_next := ok__law_next (P := P) (w := w) (K := K) (mg := mg) (base := base) (cls := clsOf K clsN) (T := tabT tfL K) B D__law_next
  have ok__law_draw := ok__law_draw (P := P) (w := w) (K := K) (mg := mg) (base := base) (cls := clsOf K clsN) (T := tabT tfL K) B D__law_next ok__law_next D__law_draw
  have ok__law_shuffled := ok__law_shuffled (P := P) (w := w) (K := K) (mg := mg) (base := base) (cls := clsOf K clsN) (T := tabT tfL K) B D__law_draw ok__law_draw D__law_shuffled
  have ok__law_part := ok__law_part (P := P) (w := w) (K := K) (mg := mg) (base := base) (cls := clsOf K clsN) (T := tabT tfL K) B D__law_part
  have ok__law_with := ok__law_with (P := P) (w := w) (K := K) (mg := mg) (base := base) (cls := clsOf K clsN) (T := tabT tfL K) D__law_with
  have ok__law_ringed := ok__law_ringed (P := P) (w := w) (K := K) (mg := mg) (base := base) (cls := clsOf K clsN) (T := tabT tfL K) B D__law_ringed
  have ok__law_steps := ok__law_steps (P := P) (w := w) (K := K) (mg := mg) (base := base) (cls := clsOf K clsN) (T := tabT tfL K) B D__law_steps
  have ok__law_balls := ok__law_balls (P := P) (w := w) (K := K) (mg := mg) (base := base) (cls := clsOf K clsN) (T := tabT tfL K) B D__law_steps ok__law_steps D__law_balls
  have ok__law_table := ok__law_table (P := P) (w := w) (K := K) (mg := mg) (base := base) (cls := clsOf K clsN) (T := tabT tfL K) B D__law_draw ok__law_draw D__law_ringed ok__law_ringed D__law_with ok__law_with D__law_balls ok__law_balls D__law_shuffled ok__law_shuffled D__law_part ok__law_part D__law_table
  have ok__law_some := ok__law_some (P := P) (w := w) (K := K) (mg := mg) (base := base) (cls := clsOf K clsN) (T := tabT tfL K) B D__law_draw ok__law_draw D__law_some
  have ok__law_turned := ok__law_turned (P := P) (w := w) (K := K) (mg := mg) (base := base) (cls := clsOf K clsN) (T := tabT tfL K) B D__law_turned
  have ok__law_is_table := ok__law_is_table (P := P) (w := w) (K := K) (mg := mg) (base := base) (cls := clsOf K clsN) (T := tabT tfL K) B D__law_is_table
  have ok__law_odd_tables := ok__law_odd_tables (P := P) (w := w) (K := K) (mg := mg) (base := base) (cls := clsOf K clsN) (T := tabT tfL K) B D__law_odd_tables
  have ok__law_odd_lines := ok__law_odd_lines (P := P) (w := w) (K := K) (mg := mg) (base := base) (cls := clsOf K clsN) (T := tabT tfL K) B D__law_odd_lines
  have ok__law_bent := ok__law_bent (P := P) (w := w) (K := K) (mg := mg) (base := base) (cls := clsOf K clsN) (T := tabT tfL K) B D__law_draw ok__law_draw D__law_with ok__law_with D__law_bent
  have ok__law_lines_right := ok__law_lines_right (P := P) (w := w) (K := K) (mg := mg) (base := base) (cls := clsOf K clsN) (T := tabT tfL K) B D__law_some ok__law_some D_part ok_part D__law_part ok__law_part D__law_odd_lines ok__law_odd_lines kit D__law_word exm__law_word X_InvalidLines X_InvalidTable X_TickError (lamD (x := "_law_lines_right") ex2 (List.mem_of_getElem? (i := 0) rfl) k__law_lines_right kc__law_lines_right hT) D__law_lines_right
  exact ok_law (P := P) (w := w) (K := K) (mg := mg) (base := base) (cls := clsOf K clsN) (T := tabT tfL K) B D__law_draw ok__law_draw D__law_table ok__law_table D_ticks ok_ticks D_is_table ok_is_table D_turned ok_turned D__law_turned ok__law_turned D__law_lines_right ok__law_lines_right D__law_bent ok__law_bent D__law_is_table ok__law_is_table D__law_odd_tables ok__law_odd_tables D_part ok_part kit D__law_word exm__law_word X_InvalidLines X_InvalidTable X_TickError (lamD (x := "law") ex2 (List.mem_of_getElem? (i := 1) rfl) k_law kc_law hT) D_law D__law_pen math
end
def nm0 : List Str := ["is_integer", "is_integer_to", "is_index", "are_indexes", "are_lines", "TickError", "InvalidLines", "InvalidTable", "MOST", "TICK", "BLANK", "is_row", "is_table", "check_table", "signs_at", "places_of", "turned", "part", "ticks", "_law_pen", "_law_next", "_law_draw", "_law_shuffled", "_law_part", "_law_with", "_law_ringed", "_law_steps", "_law_balls", "_law_table", "_law_some"]
def nm1 : List Str := ["_law_turned", "_law_is_table", "_law_odd_tables", "_law_odd_lines", "_law_word", "_law_bent", "_law_lines_right"]
def nms : List Str := nm0 ++ nm1
abbrev R : PySem.W.OpenRow := PySem.W.OpenLaw.row PySem.Challenge.rw_ticklay_k01_tables
abbrev hk : PySem.W.Hook := He.hookX 4 faL fnL [] tfL exL
def ob (s : PySem.W.SharedT) : He.AlX := He.obsX 4 faL fnL [] tfL exL (HandSHeadRun.getT s)
theorem ob_eq (s : PySem.W.SharedT) : ob s = hk.obs s.abs := He.obsX_eq (HandSHeadRun.getT_eq s)
theorem run (w : World) : HandSHeadRun.RunEq R (PySem.W.view R.prog [41]) hk ob 3000 nms w := by
  intro os
  kernel_rfl
end K01
section
open PySem PySem.W PySem.Calls PyProof.Rows
theorem PySem.Challenge.head_ticklay_k01_tables (good : List Int → Prop) (hgood : ∀ ns : List Int, ns.length ≤ 63 → (∀ z ∈ ns, Builtin.Int.intBits z ≤ 1048576) → good ns) (math : ∀ ns, good ns → ∃ S', K01.m_law (Vf.stPen 14 (Vf.cutI ns none (some 60))) = .rt (.d (.bool true)) S') : PySem.Challenge.rw_ticklay_k01_tables.Holds := by
  w_on; o_law
  refine HandSHeadRun.head_any (r := OpenLaw.row PySem.Challenge.rw_ticklay_k01_tables) (q := view (OpenLaw.row PySem.Challenge.rw_ticklay_k01_tables).prog [41]) (H := K01.hk) (ob := K01.ob) (M := 3000) (loose := K01.nms) (d := HandSHeadRun.topDef (OpenLaw.row PySem.Challenge.rw_ticklay_k01_tables).prog 41) (kwd := []) K01.ob_eq
    (by kernel_rfl) (fun s => by kernel_rfl) K01.run (by kernel_rfl) (by kernel_rfl) (by kernel_rfl) (by rfl) (by first | assumption | decide +kernel) (by decide +kernel) ⟨rfl, rfl, rfl, rfl, rfl, by decide +kernel⟩ ?hw ?hc
  case hw => w_witness2
  case hc =>
    refine Vf.walk_ofE (l := PySem.Challenge.rw_ticklay_k01_tables) (n := 63) (k := 10) (x := "script") rfl (by decide) (by kernel_rfl) ⟨rfl, by decide, by decide⟩ ?F
    intro w mg fa h Y G hmg0
    obtain ⟨K, KX, c⟩ := Y
    have hmg : mg ("law" : PySem.Str) = some (.ref fa) := by
      have e : (HandSHeadRun.topDef (OpenLaw.row PySem.Challenge.rw_ticklay_k01_tables).prog 41).name = ("law" : PySem.Str) := by kernel_rfl
      rw [← e]
      exact hmg0
    have e := hmg.symm.trans (He.glo_ok KX G (c.t.d.fact 31 (f := .glo "law") rfl))
    cases e
    obtain ⟨fd, hb, hF⟩ := K01.head_law (P := (PySem.Challenge.rw_ticklay_k01_tables).prog) (w := w) KX G c math
    refine ⟨K, fd, K01.tfL.map (He.cT K), Vf.spLaw K (Vf.tabT K01.tfL K) good, KX, fun p hp => ?_, fun p hp => ?_, fun p hp => ?_, hb, fun H a ns hl hbits hE hS => ⟨a, ns, rfl, hS, Vf.tabs0 hE, hgood ns hl hbits, fun _ => rfl⟩, hF⟩
    · obtain ⟨d, hd, rfl⟩ := List.mem_map.1 hp
      exact c.empty d hd
    · obtain ⟨d, hd, rfl⟩ := List.mem_map.1 hp
      exact c.out d hd
    · obtain ⟨d, hd, rfl⟩ := List.mem_map.1 hp
      exact PySem.W.codeHd_of_K KX (c.hd d hd)
end

set_option maxRecDepth 100000
theorem PySem.Challenge.cw_ticklay_k01_tables_holds : PySem.Challenge.rw_ticklay_k01_tables.Holds := by
  exact PySem.Challenge.head_ticklay_k01_tables (fun _ => True) (fun _ _ _ => trivial) (fun ns _ => K01.math ns)
